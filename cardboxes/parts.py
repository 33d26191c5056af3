"""Parts of boxes: switches that are held, dropped or taken as edges."""

from cardboxes.boxes import has_switch


def without_switch(card, switch):
    """Return the card with the switch removed; the switches above it move down."""
    above = card >> (switch + 1)
    below = card & ((1 << switch) - 1)
    return (above << switch) + below


def hold_switch(box, switch, on):
    """Return the cards on which the switch is on (or off), without it."""
    n, cards = box
    return (n - 1, tuple([without_switch(card, switch) for card in cards if has_switch(card, switch) == on]))


def drop_switch(box, switch):
    """Return all cards without the switch."""
    n, cards = box
    return (n - 1, tuple(sorted({without_switch(card, switch) for card in cards})))


def edge_box(box, switch):
    """Return the cards without the switch that are in the box both with it off and with it on."""
    n, cards_off = hold_switch(box, switch, False)
    cards_on = hold_switch(box, switch, True)[1]
    return (n, tuple([card for card in cards_off if card in cards_on]))


def project_to(box, switches):
    """Return the box that is left if all switches outside of the set are dropped."""
    left = box
    # From the highest switch down, so that those still to be dropped keep their numbers.
    for switch in reversed(range(box[0])):
        if not has_switch(switches, switch):
            left = drop_switch(left, switch)
    return left
