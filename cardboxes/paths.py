"""Paths of cards, each of which differs from the next one in one switch."""

from cardboxes.boxes import card_distance, is_one_of


def are_neighbours(first, second):
    """Return whether two cards differ in exactly one switch."""
    return card_distance(first, second) == 1


def layers_from(box, first):
    """Return the cards to which paths lead from the first one, as lists by the least number of steps."""
    left = [card for card in box[1] if card != first]
    layers = [[first]]
    while len(layers[-1]) > 0:
        near = [card for card in left if any([are_neighbours(card, other) for other in layers[-1]])]
        left = [card for card in left if card not in near]
        layers.append(near)
    return layers


def steps_between(box, first, second):
    """Return the least number of steps of a path from first to second, or None."""
    for steps, layer in enumerate(layers_from(box, first)):
        if second in layer:
            return steps
    return None


def straight_path(box, first, second):
    """Return a straight path from first to second, or None."""
    # One path for each card that is reached is enough: how it was reached does not matter for the rest.
    paths = {first: (first,)}
    for step in range(card_distance(first, second)):
        paths = longer_paths(box, paths, second)
    return paths.get(second)


def longer_paths(box, paths, second):
    """Return the paths with one step more towards second, by the cards where they end."""
    longer = {}
    for last in paths:
        for card in box[1]:
            if are_neighbours(last, card) and card_distance(card, second) < card_distance(last, second):
                longer[card] = (*paths[last], card)
    return longer


def path_holds(box, first, second, value):
    """Return whether the value is a straight path of the box from first to second."""
    if not isinstance(value, tuple) or len(value) != card_distance(first, second) + 1:
        return False
    if not all([is_one_of(box[1], card) for card in value]):
        return False
    if value[0] != first or value[-1] != second:
        return False
    return all([are_neighbours(card, after) for card, after in zip(value, value[1:])])


def component_cards(box):
    """Return the ascending tuple of the ascending tuples of cards that are joined by paths."""
    groups = []
    left = list(box[1])
    while len(left) > 0:
        group = [card for layer in layers_from(box, left[0]) for card in layer]
        groups.append(tuple(sorted(group)))
        left = [card for card in left if card not in group]
    return tuple(groups)
