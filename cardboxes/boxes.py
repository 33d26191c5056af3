"""Boxes, their cards, and sets of switches."""

from cardboxes.bounds import MAX_SWITCHES


def is_number(value):
    """Return whether the value is an int and not a bool."""
    return isinstance(value, int) and not isinstance(value, bool)


def is_below(value, bound):
    """Return whether the value is a number from 0 on that is less than the bound."""
    return is_number(value) and 0 <= value < bound


def is_one_of(numbers, value):
    """Return whether the value is one of these numbers."""
    # A bool equals a number, so membership alone would let it pass.
    return is_number(value) and value in numbers


def is_pair(value):
    """Return whether the value is a tuple of two items."""
    return isinstance(value, tuple) and len(value) == 2


def is_selection(choices, value):
    """Return whether the value is a tuple with one number from each of the lists, in their order."""
    if not isinstance(value, tuple) or len(value) != len(choices):
        return False
    return all([is_one_of(choice, item) for choice, item in zip(choices, value)])


def is_card(n, value):
    """Return whether the value is a card of n switches."""
    return is_below(value, 1 << n)


def is_box(value):
    """Return whether the value is a box."""
    return box_error(value) is None


def box_error(value):
    """Return None for a box, otherwise the first error as (index or None, word)."""
    if not is_pair(value):
        return (None, "tuple")
    n, cards = value
    if not is_below(n, MAX_SWITCHES + 1):
        return (None, "switches")
    if not isinstance(cards, tuple):
        return (None, "cards")
    return cards_error(n, cards)


def cards_error(n, cards):
    """Return None for an ascending tuple of cards of n switches, otherwise (index, word)."""
    for index, card in enumerate(cards):
        if not is_card(n, card):
            return (index, "card")
        if index > 0 and card <= cards[index - 1]:
            return (index, "order")
    return None


def opposite_box(box):
    """Return the box of all the cards that are not in the box."""
    n, cards = box
    return (n, tuple([card for card in range(1 << n) if card not in cards]))


def card_distance(first, second):
    """Return the number of switches at which two cards differ."""
    return size_of(first ^ second)


def size_of(switches):
    """Return the number of switches in the set."""
    return sum([(switches >> k) & 1 for k in range(switches.bit_length())])


def has_switch(switches, switch):
    """Return whether the switch belongs to the set, or is on on the card."""
    return (switches >> switch) & 1 == 1


def subsets_of(switches):
    """Return the ascending list of all subsets of the set."""
    return [part for part in range(switches + 1) if part & switches == part]


def sets_outside(n, switches):
    """Return the ascending list of the sets of n switches that have none of these."""
    return [other for other in range(1 << n) if other & switches == 0]
