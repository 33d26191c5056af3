"""Patterns on sets of switches, and the sets that are shown."""

from cardboxes.boxes import is_one_of, is_pair, is_selection, subsets_of


def patterns_of(box, switches):
    """Return the ascending tuple of the patterns on the set that the box shows."""
    return tuple(sorted({card & switches for card in box[1]}))


def is_shown(box, switches):
    """Return whether the box shows all patterns on the set."""
    return patterns_of(box, switches) == tuple(subsets_of(switches))


def shown_sets(box):
    """Return the ascending tuple of all shown sets."""
    return tuple([switches for switches in range(1 << box[0]) if is_shown(box, switches)])


def cards_with(box, switches, pattern):
    """Return the ascending list of the cards that have this pattern on the set."""
    return [card for card in box[1] if card & switches == pattern]


def shown_certificate(box, switches):
    """Return ("shown", the smallest card for each pattern), or ("missing", smallest missing pattern)."""
    smallest = []
    for pattern in subsets_of(switches):
        cards = cards_with(box, switches, pattern)
        if len(cards) == 0:
            return ("missing", pattern)
        smallest.append(cards[0])
    return ("shown", tuple(smallest))


def shown_holds(box, switches, value):
    """Return whether the value proves that the set is shown, or that it is not."""
    if not is_pair(value):
        return False
    word, proof = value
    if word == "shown":
        return is_selection([cards_with(box, switches, pattern) for pattern in subsets_of(switches)], proof)
    return word == "missing" and is_missing(box, switches, proof)


def is_missing(box, switches, value):
    """Return whether the value is a pattern on the set that the box does not show."""
    return is_one_of(subsets_of(switches), value) and value not in patterns_of(box, switches)
