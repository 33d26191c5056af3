"""Changes of boxes: switches that are flipped, renamed or added, and products."""

from cardboxes.bounds import MAX_SWITCHES
from cardboxes.boxes import has_switch
from cardboxes.errors import TooManySwitches


def flip_switches(box, switches):
    """Return the box in which the switches of the set are flipped on each card."""
    n, cards = box
    return (n, tuple(sorted([card ^ switches for card in cards])))


def rename_switches(box, order):
    """Return the box in which switch k of each card is what switch order[k] was."""
    n, cards = box
    return (n, tuple(sorted([renamed_card(card, order) for card in cards])))


def renamed_card(card, order):
    """Return the card on which switch k is what switch order[k] was."""
    return sum([1 << k for k, old in enumerate(order) if has_switch(card, old)])


def add_fixed(box, on):
    """Return the box with one more switch, which is on (or off) on each card."""
    return product_box(box, (1, (1 if on else 0,)))


def add_free(box):
    """Return the box with one more switch, with each card twice, with this switch off and on."""
    return product_box(box, (1, (0, 1)))


def product_box(first, second):
    """Return the box of all pairs of cards; the switches of second follow those of first."""
    n, cards = first
    more, others = second
    if n + more > MAX_SWITCHES:
        raise TooManySwitches(MAX_SWITCHES)
    # The cards of second decide the order, so the pairs are ascending as they come.
    return (n + more, tuple([card + (other << n) for other in others for card in cards]))
