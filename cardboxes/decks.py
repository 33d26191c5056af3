"""Decks: boxes that are edited card by card and switch by switch, and undone."""

from cardboxes.bounds import BATCH, MAX_EDITS
from cardboxes.boxes import box_error, is_below, is_card, is_one_of, is_pair, opposite_box
from cardboxes.changes import flip_switches
from cardboxes.cubes import solid_sets
from cardboxes.errors import (
    Absent,
    BadBox,
    BadEdit,
    BadEdits,
    BoxError,
    NoCard,
    NoSwitch,
    NothingToUndo,
    NoVersion,
    Present,
    Rejected,
    Rough,
    TooManyEdits,
)
from cardboxes.pressing import press_switch
from cardboxes.shown import shown_sets
from cardboxes.smooth import is_smooth, rough_set, set_counts

EDIT_WORDS = ("add", "remove", "flip", "press")


def with_card(box, card):
    """Return the box with one more card."""
    n, cards = box
    return (n, tuple(sorted([*cards, card])))


def without_card(box, card):
    """Return the box with one card less."""
    n, cards = box
    return (n, tuple([other for other in cards if other != card]))


def check_new_card(box, value):
    """Raise an error if the value is not a card that can be added."""
    n, cards = box
    if not is_card(n, value):
        raise NoCard(value)
    if value in cards:
        raise Present(value)


def check_old_card(box, value):
    """Raise an error if the value is not a card in the box."""
    if not is_one_of(box[1], value):
        raise Absent(value)


def check_switch(box, value):
    """Raise an error if the value is not a switch of the box."""
    if not is_below(value, box[0]):
        raise NoSwitch(value)


def check_smooth(box):
    """Raise an error if the box is not smooth."""
    switches = rough_set(box)
    if switches is not None:
        raise Rough(switches)


def check_batch(value):
    """Raise an error if the value is not a list or tuple of edits."""
    if not isinstance(value, (list, tuple)) or len(value) > BATCH:
        raise BadEdits()
    for index, item in enumerate(value):
        if not is_pair(item) or item[0] not in EDIT_WORDS:
            raise BadEdit(index)


def differences(before, after):
    """Return the tuples of what is only in the second tuple, and of what is only in the first one."""
    gained = tuple([one for one in after if one not in before])
    lost = tuple([one for one in before if one not in after])
    return (gained, lost)


class Deck:
    """A box with the edits that led to it."""

    def __init__(self, box):
        error = box_error(box)
        if error is not None:
            raise BadBox(error)
        # The boxes at all versions, and between each two of them the edit that leads on.
        self.states = [box]
        self.done = []

    def add(self, card):
        """Add a card and return the new version."""
        self.check_room()
        check_new_card(self.box(), card)
        return self.stand("add", card, with_card(self.box(), card))

    def remove(self, card):
        """Remove a card and return the new version."""
        self.check_room()
        check_old_card(self.box(), card)
        return self.stand("remove", card, without_card(self.box(), card))

    def flip(self, switch):
        """Flip the switch on all cards and return the new version."""
        self.check_room()
        check_switch(self.box(), switch)
        return self.stand("flip", switch, flip_switches(self.box(), 1 << switch))

    def press(self, switch):
        """Press the switch and return the new version."""
        self.check_room()
        check_switch(self.box(), switch)
        return self.stand("press", switch, press_switch(self.box(), switch))

    def check_room(self):
        """Raise an error if no further edit may stand."""
        if len(self.done) >= MAX_EDITS:
            raise TooManyEdits()

    def stand(self, word, value, after):
        """Let the edit stand that leads to this box, and return the new version."""
        self.states.append(after)
        self.done.append((word, value))
        return len(self.done)

    def undo(self):
        """Remove the last edit that stands and return the new version."""
        if len(self.done) == 0:
            raise NothingToUndo()
        return self.go_back(len(self.done) - 1)

    def go_back(self, many):
        """Keep only so many of the edits that stand, and return the new version."""
        self.states = self.states[:many + 1]
        self.done = self.done[:many]
        return len(self.done)

    def attempt(self, edits):
        """Do all edits of the batch, or none of them, and return the new version."""
        check_batch(edits)
        start = len(self.done)
        for index, (word, value) in enumerate(edits):
            try:
                self.edit(word, value)
            except (BoxError, Absent, NoSwitch):
                self.go_back(start)
                raise Rejected(index) from None
        return len(self.done)

    def edit(self, word, value):
        """Call the method of this name, one of the four, and return the new version."""
        if word == "add":
            return self.add(value)
        if word == "remove":
            return self.remove(value)
        if word == "flip":
            return self.flip(value)
        return self.press(value)

    def box(self, *, version=None):
        """Return the box."""
        if version is None:
            return self.states[-1]
        if not is_below(version, len(self.states)):
            raise NoVersion(version)
        return self.states[version]

    def shown(self, *, version=None):
        """Return the ascending tuple of all shown sets."""
        return shown_sets(self.box(version=version))

    def solid(self, *, version=None):
        """Return the ascending tuple of all solid sets."""
        return solid_sets(self.box(version=version))

    def counts(self, *, version=None):
        """Return how many solid sets, cards and shown sets there are."""
        return set_counts(self.box(version=version))

    def edits(self):
        """Return the tuple of the edits that stand."""
        return tuple(self.done)

    def changes(self, number):
        """Return the sets that became shown, stopped being shown, became solid, stopped being solid."""
        if not is_below(number, len(self.done)):
            raise NoVersion(number)
        before, after = self.states[number], self.states[number + 1]
        shown = differences(shown_sets(before), shown_sets(after))
        solid = differences(solid_sets(before), solid_sets(after))
        return shown + solid

    def __len__(self):
        return len(self.done)

    def __str__(self):
        return f"{self.states[-1][0]} switches, {len(self.states[-1][1])} cards, {len(self.done)} edits"

    def __eq__(self, other):
        if not isinstance(other, Deck) or isinstance(self, SmoothDeck) != isinstance(other, SmoothDeck):
            return False
        return self.states[-1] == other.states[-1]


class SmoothDeck(Deck):
    """A deck whose box is always smooth."""

    def __init__(self, box):
        Deck.__init__(self, box)
        check_smooth(box)

    def add(self, card):
        """Add a card and return the new version, if the box stays smooth."""
        self.check_room()
        check_new_card(self.box(), card)
        after = with_card(self.box(), card)
        check_smooth(after)
        return self.stand("add", card, after)

    def remove(self, card):
        """Remove a card and return the new version, if the box stays smooth."""
        self.check_room()
        check_old_card(self.box(), card)
        after = without_card(self.box(), card)
        check_smooth(after)
        return self.stand("remove", card, after)

    def addable(self):
        """Return the ascending tuple of the cards that can be added such that the box stays smooth."""
        box = self.box()
        return tuple([card for card in opposite_box(box)[1] if is_smooth(with_card(box, card))])

    def removable(self):
        """Return the ascending tuple of the cards that can be removed such that the box stays smooth."""
        box = self.box()
        return tuple([card for card in box[1] if is_smooth(without_card(box, card))])
