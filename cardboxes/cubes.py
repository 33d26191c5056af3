"""Cubes in boxes, and the sets of switches that are solid."""

from cardboxes.boxes import is_one_of, is_pair, is_selection, sets_outside, size_of, subsets_of


def cube_cards(cube):
    """Return the ascending tuple of the cards of the cube (base, directions)."""
    base, directions = cube
    return tuple([base + part for part in subsets_of(directions)])


def first_missing(cards, cube):
    """Return the smallest card of the cube that is not among the cards, or None."""
    for card in cube_cards(cube):
        if card not in cards:
            return card
    return None


def bases_of(box, switches):
    """Return the ascending tuple of the bases of the cubes in the box with these directions."""
    n, cards = box
    return tuple([base for base in sets_outside(n, switches) if first_missing(cards, (base, switches)) is None])


def is_solid(box, switches):
    """Return whether the box contains a cube with these directions."""
    return len(bases_of(box, switches)) > 0


def solid_sets(box):
    """Return the ascending tuple of all solid sets."""
    return tuple([switches for switches in range(1 << box[0]) if is_solid(box, switches)])


def solid_certificate(box, switches):
    """Return ("solid", smallest base), or ("broken", a missing card for each base)."""
    bases = bases_of(box, switches)
    if len(bases) > 0:
        return ("solid", bases[0])
    n, cards = box
    return ("broken", tuple([first_missing(cards, (base, switches)) for base in sets_outside(n, switches)]))


def solid_holds(box, switches, value):
    """Return whether the value proves that the set is solid, or that it is not."""
    if not is_pair(value):
        return False
    word, proof = value
    if word == "solid":
        return is_one_of(bases_of(box, switches), proof)
    return word == "broken" and broken_holds(box, switches, proof)


def broken_holds(box, switches, value):
    """Return whether the value is a tuple with one card outside of the box for each possible base."""
    n, cards = box
    cubes = [cube_cards((base, switches)) for base in sets_outside(n, switches)]
    return is_selection([[card for card in cube if card not in cards] for cube in cubes], value)


def all_cubes(box):
    """Return the ascending tuple of all cubes whose cards all belong to the box."""
    n, cards = box
    cubes = [(base, directions) for base in cards for directions in sets_outside(n, base)]
    return tuple([cube for cube in cubes if first_missing(cards, cube) is None])


def cube_counts(box):
    """Return for each size from 0 to n how many cubes of this size are in the box."""
    sizes = [size_of(directions) for base, directions in all_cubes(box)]
    return tuple([sizes.count(size) for size in range(box[0] + 1)])
