"""Smooth boxes: those in which every shown set is solid."""

from cardboxes.boxes import size_of
from cardboxes.cubes import is_solid, solid_sets
from cardboxes.shown import shown_sets


def is_smooth(box):
    """Return whether every shown set is solid."""
    return rough_set(box) is None


def rough_set(box):
    """Return the smallest set that is shown and not solid, or None."""
    for switches in shown_sets(box):
        if not is_solid(box, switches):
            return switches
    return None


def set_counts(box):
    """Return how many solid sets, cards and shown sets there are."""
    return (len(solid_sets(box)), len(box[1]), len(shown_sets(box)))


def shown_size(box):
    """Return the greatest size of a shown set, or None for the empty box."""
    return max([size_of(switches) for switches in shown_sets(box)], default=None)


def card_bound(n, size):
    """Return the number of sets of at most this size among n switches."""
    return len([switches for switches in range(1 << n) if size_of(switches) <= size])
