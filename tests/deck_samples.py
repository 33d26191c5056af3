"""Edits for the tests of decks and shells, and what they do to a box, written down a second time."""

import random

from tests.samples import (
    NOT_NUMBERS,
    StrictCase,
    other_cards,
    wanted_flipped,
    wanted_pressed,
    wanted_rough,
    wanted_shown,
    wanted_solid,
    with_card,
    without_card,
)

WORDS = ("add", "remove", "flip", "press")


def edited(box, edit):
    """The box after an edit that can be done."""
    word, value = edit
    if word == "add":
        return with_card(box, value)
    if word == "remove":
        return without_card(box, value)
    return wanted_flipped(box, 2 ** value) if word == "flip" else wanted_pressed(box, value)


def edits_for(box, words=WORDS):
    """All edits of these kinds that can be done on the box."""
    values = {"add": other_cards(box), "remove": box[1], "flip": range(box[0]), "press": range(box[0])}
    return [(word, value) for word in words for value in values[word]]


def any_edit(box, chance, words=WORDS):
    """An edit that can be done, of any kind for which there is one."""
    kinds = [word for word in words if edits_for(box, (word,))]
    return chance.choice(edits_for(box, (chance.choice(kinds),)))


def any_edits(box, many, chance, words=WORDS):
    """So many edits that can be done one after another, and the boxes before, between and after them."""
    edits, boxes = [], [box]
    for turn in range(many):
        edits.append(any_edit(boxes[-1], chance, words))
        boxes.append(edited(boxes[-1], edits[-1]))
    return edits, boxes


def any_smooth_edit(box, chance):
    """An edit of any kind for which there is one, after which the box is smooth."""
    edits = [edit for edit in edits_for(box) if wanted_rough(edited(box, edit)) is None]
    kinds = sorted({word for word, value in edits})
    word = chance.choice(kinds)
    return chance.choice([edit for edit in edits if edit[0] == word])


def call(deck, edit):
    word, value = edit
    return getattr(deck, word)(value)


def start(kind, box, edits):
    """A deck of this kind on which these edits were done."""
    deck = kind(box)
    for edit in edits:
        call(deck, edit)
    return deck


def no_cards(n):
    """Values that are no card of n switches."""
    return (*NOT_NUMBERS, -1, 2 ** n, 2 ** n + 1, 64, -(10 ** 29), 10 ** 29, [1], {"card": 0}, (1, 2), "add", [[]])


def no_switches(n):
    """Values that are no switch of n switches."""
    return (*NOT_NUMBERS, -1, n, n + 1, 6, 99, -n - 1, 10 ** 29, [1], {"switch": 0}, (1, 2), "flip", [[]])


def wanted_counts(box):
    return (len(wanted_solid(box)), len(box[1]), len(wanted_shown(box)))


def wanted_changes(before, after):
    found = []
    for sets in (wanted_shown, wanted_solid):
        old, new = set(sets(before)), set(sets(after))
        found += [tuple(sorted(new - old)), tuple(sorted(old - new))]
    return tuple(found)


def state_of(deck):
    """What a deck tells of itself, with the boxes at all its versions."""
    boxes = [deck.box(version=version) for version in range(len(deck) + 1)]
    return (type(deck).__name__, deck.box(), boxes, deck.edits(), len(deck), str(deck))


class DeckCase(StrictCase):
    def is_at(self, deck, boxes, edits):
        """The deck has these edits, and these boxes at its versions."""
        n, cards = boxes[-1]
        text = str(n) + " switches, " + str(len(cards)) + " cards, " + str(len(edits)) + " edits"
        wanted = (type(deck).__name__, boxes[-1], list(boxes), tuple(edits), len(edits), text)
        self.same(state_of(deck), wanted)

    def tells(self, deck, box, **named):
        """The queries return what belongs to this box."""
        self.same(deck.box(**named), box)
        self.same(deck.shown(**named), wanted_shown(box))
        self.same(deck.solid(**named), wanted_solid(box))
        self.same(deck.counts(**named), wanted_counts(box))

    def refuses(self, deck, kind, fields, function, *arguments, **named):
        """The call raises this error, and the deck stays as it is."""
        before = state_of(deck)
        self.raises(kind, fields, function, *arguments, **named)
        self.same(state_of(deck), before)


def chances(seed, boxes):
    """Each box with a source of chance of its own."""
    for at, box in enumerate(boxes):
        yield random.Random(seed * 10000 + at), box
