"""Pressing of switches, closed boxes, and orders of pressing."""

from cardboxes.boxes import has_switch, subsets_of


def press_switch(box, switch):
    """Return the box after the switch was pressed."""
    n, cards = box
    return (n, tuple(sorted([pressed_card(cards, card, switch) for card in cards])))


def pressed_card(cards, card, switch):
    """Return what the card becomes among these cards if the switch is pressed."""
    off = card - (1 << switch)
    return off if has_switch(card, switch) and off not in cards else card


def press_all(box, order):
    """Return the box after the switches were pressed in this order."""
    for switch in order:
        box = press_switch(box, switch)
    return box


def is_closed(box):
    """Return whether with each card all its subsets are cards of the box."""
    cards = box[1]
    return all([part in cards for card in cards for part in subsets_of(card)])


def shown_order(n, switches):
    """Return the order of the switches outside of the set, then those of the set."""
    return tuple(switches_with(n, switches, False) + switches_with(n, switches, True))


def solid_order(n, switches):
    """Return the order of the switches of the set, then the others."""
    return tuple(switches_with(n, switches, True) + switches_with(n, switches, False))


def switches_with(n, switches, inside):
    """Return the ascending list of those of n switches that are in the set (or outside of it)."""
    return [switch for switch in range(n) if has_switch(switches, switch) == inside]
