"""Points 12 and 13, and (i) of point 2: decks, their edits, versions and queries."""

import copy
import unittest

from tests.deck_samples import (
    WORDS,
    DeckCase,
    any_edit,
    any_edits,
    call,
    chances,
    edited,
    no_cards,
    no_switches,
    start,
    state_of,
    wanted_changes,
)
from tests.samples import (
    NOT_NUMBERS,
    OTHER_VALUES,
    boxes_of,
    every_box,
    sample_boxes,
    wanted_flipped,
    wanted_shown,
    wanted_solid,
)
from tests.test_boxes import changed_boxes, wanted_error

from cardboxes.boxes import is_box
from cardboxes.cubes import solid_sets
from cardboxes.decks import Deck, SmoothDeck
from cardboxes.errors import (
    Absent,
    BadBox,
    BadEdit,
    BadEdits,
    NoCard,
    NoSwitch,
    NothingToUndo,
    NoVersion,
    Present,
    Rejected,
    TooManyEdits,
)
from cardboxes.shown import shown_sets
from cardboxes.smooth import set_counts


def small_boxes(rounds, seed):
    """Sample boxes of zero to five switches."""
    return [box for box in sample_boxes(rounds=rounds, seed=seed) if box[0] < 6]


class NewDeckTest(DeckCase):
    def test_boxes(self):
        for box in sample_boxes(seed=71):
            deck = Deck(box)
            self.is_at(deck, [box], [])
            self.tells(deck, box)
            self.tells(deck, box, version=None)
            self.tells(deck, box, version=0)

    def test_other_values(self):
        for value in OTHER_VALUES:
            for one in (value, (2, value), (value, ()), (2, (0, value))):
                if wanted_error(one) is not None:
                    for kind in (Deck, SmoothDeck):
                        self.raises(BadBox, {"error": wanted_error(one)}, kind, one)

    def test_changed_boxes(self):
        seen = set()
        for changes in (1, 2):
            for value in changed_boxes(changes):
                error = wanted_error(value)
                seen.add(error and error[1])
                if error is None:
                    self.same(Deck(value).box(), value)
                else:
                    self.raises(BadBox, {"error": error}, Deck, value)
        self.assertEqual(seen, {None, "tuple", "switches", "cards", "card", "order"})

    def test_texts(self):
        self.same(str(Deck((0, ()))), "0 switches, 0 cards, 0 edits")
        self.same(str(Deck((1, (1,)))), "1 switches, 1 cards, 0 edits")
        self.same(str(Deck((6, tuple(range(64))))), "6 switches, 64 cards, 0 edits")
        self.same(str(start(Deck, (1, (1,)), [("add", 0)])), "1 switches, 2 cards, 1 edits")


class EditsTest(DeckCase):
    def follow(self, box, many, chance, words):
        """Do edits one by one, and look at the deck after each."""
        deck, boxes, edits = Deck(box), [box], []
        for turn in range(many):
            edits.append(any_edit(boxes[-1], chance, words))
            boxes.append(edited(boxes[-1], edits[-1]))
            self.same(call(deck, edits[-1]), turn + 1)
            self.is_at(deck, boxes, edits)
        return boxes

    def test_cards(self):
        for chance, box in chances(72, sample_boxes(seed=72)):
            boxes = self.follow(box, 15, chance, ("add", "remove"))
            for before, after in zip(boxes, boxes[1:]):
                self.assertEqual(len(set(before[1]) ^ set(after[1])), 1)
                self.assertTrue(is_box(after))

    def test_flips_and_presses(self):
        for chance, box in chances(73, sample_boxes(seed=73)):
            if box[0] > 0:
                for after in self.follow(box, 12, chance, ("flip", "press")):
                    self.assertEqual(len(after[1]), len(box[1]))

    def test_all_kinds(self):
        for chance, box in chances(74, sample_boxes(seed=74)):
            self.follow(box, 12, chance, WORDS)

    def test_flipped_twice(self):
        for box in sample_boxes(seed=75):
            for switch in range(box[0]):
                deck = Deck(box)
                self.same([deck.flip(switch), deck.flip(switch)], [1, 2])
                self.is_at(deck, [box, wanted_flipped(box, 2 ** switch), box], [("flip", switch)] * 2)

    def test_every_card_of_small_boxes(self):
        for n in range(3):
            for box in every_box(n):
                for card in range(2 ** n):
                    word = "remove" if card in box[1] else "add"
                    deck = Deck(box)
                    self.same(call(deck, (word, card)), 1)
                    self.is_at(deck, [box, edited(box, (word, card))], [(word, card)])

    def test_edits_without_effect_stand(self):
        deck = Deck((2, (0, 1)))
        self.same([deck.press(0), deck.press(0), deck.flip(0)], [1, 2, 3])
        self.is_at(deck, [(2, (0, 1))] * 4, [("press", 0), ("press", 0), ("flip", 0)])


class WrongValuesTest(DeckCase):
    def refuse_all(self, deck, values, switches):
        """Calls with these values and switches raise the described errors."""
        n, cards = deck.box()
        for value in values:
            number = type(value) is int
            if not number or not 0 <= value < 2 ** n:
                self.refuses(deck, NoCard, {"value": value}, deck.add, value)
            elif value in cards:
                self.refuses(deck, Present, {"value": value}, deck.add, value)
            if not number or value not in cards:
                self.refuses(deck, Absent, {"value": value}, deck.remove, value)
        for value in switches:
            if type(value) is not int or not 0 <= value < n:
                self.refuses(deck, NoSwitch, {"value": value}, deck.flip, value)
                self.refuses(deck, NoSwitch, {"value": value}, deck.press, value)

    def test_between_edits(self):
        for chance, box in chances(76, sample_boxes(rounds=1, seed=76)):
            deck, n = Deck(box), box[0]
            for turn in range(10):
                values = [*chance.sample(no_cards(n), 4), *[chance.randrange(2 ** n) for value in range(3)]]
                self.refuse_all(deck, values, chance.sample(no_switches(n), 3))
                self.same(call(deck, any_edit(deck.box(), chance)), turn + 1)

    def test_all_wrong_values(self):
        for box in ((0, ()), (0, (0,)), (1, (0,)), (1, (0, 1)), (2, (0, 1, 3)), (6, (0, 1, 63))):
            values = [*no_cards(box[0]), *OTHER_VALUES, *range(2 ** box[0])]
            self.refuse_all(Deck(box), values, [*no_switches(box[0]), *OTHER_VALUES])

    def test_smooth_deck_of_all_cards(self):
        deck = SmoothDeck((2, (0, 1, 2, 3)))
        self.refuse_all(deck, [*no_cards(2), *OTHER_VALUES, *range(4)], [*no_switches(2), *OTHER_VALUES])

    def test_a_bool_is_not_a_number(self):
        deck = Deck((2, (0, 1)))
        self.refuses(deck, NoCard, {"value": True}, deck.add, True)
        self.refuses(deck, Absent, {"value": True}, deck.remove, True)
        self.refuses(deck, Absent, {"value": False}, deck.remove, False)
        self.refuses(deck, NoSwitch, {"value": True}, deck.flip, True)
        self.refuses(deck, NoSwitch, {"value": False}, deck.press, False)


class UndoTest(DeckCase):
    def test_edits_and_undos(self):
        for chance, box in chances(77, small_boxes(1, 77)):
            deck, boxes, edits = Deck(box), [box], []
            for turn in range(20):
                if chance.randrange(2):
                    edits.append(any_edit(boxes[-1], chance))
                    boxes.append(edited(boxes[-1], edits[-1]))
                    self.same(call(deck, edits[-1]), len(edits))
                elif edits:
                    edits.pop()
                    boxes.pop()
                    self.same(deck.undo(), len(edits))
                else:
                    self.refuses(deck, NothingToUndo, {}, deck.undo)
                self.is_at(deck, boxes, edits)
                self.tells(deck, boxes[-1])
                version = chance.randrange(len(boxes))
                self.tells(deck, boxes[version], version=version)

    def test_more_undos_than_edits(self):
        for chance, box in chances(78, small_boxes(1, 78)):
            edits, boxes = any_edits(box, 5, chance)
            deck = start(Deck, box, edits)
            for left in range(4, -1, -1):
                self.same(deck.undo(), left)
                self.is_at(deck, boxes[:left + 1], edits[:left])
            for turn in range(3):
                self.refuses(deck, NothingToUndo, {}, deck.undo)
            self.same(call(deck, edits[0]), 1)
            self.is_at(deck, boxes[:2], edits[:1])

    def test_as_a_new_deck(self):
        for chance, box in chances(79, sample_boxes(rounds=1, seed=79)):
            deck = Deck(box)
            for turn in range(15):
                if len(deck) and chance.randrange(3) == 0:
                    deck.undo()
                else:
                    call(deck, any_edit(deck.box(), chance))
            new = Deck(deck.box())
            told = [[one.box(), one.shown(), one.solid(), one.counts()] for one in (deck, new)]
            self.same(told[0], told[1])
            self.same([deck == new, new == deck, deck != new], [True, True, False])
            again = Deck(box)
            self.same(again.attempt(deck.edits()), len(deck))
            self.same(state_of(again), state_of(deck))
            for number in range(len(deck)):
                self.same(again.changes(number), deck.changes(number))


class VersionsTest(DeckCase):
    def test_each_version(self):
        for chance, box in chances(80, small_boxes(1, 80)):
            edits, boxes = any_edits(box, 10, chance)
            deck = start(Deck, box, edits)
            for version in chance.sample(range(11), 11):
                self.tells(deck, boxes[version], version=version)
                self.same(deck.shown(version=version), shown_sets(boxes[version]))
                self.same(deck.solid(version=version), solid_sets(boxes[version]))
                self.same(deck.counts(version=version), set_counts(boxes[version]))
            self.is_at(deck, boxes, edits)

    def test_no_version(self):
        for chance, box in chances(81, small_boxes(0, 81)):
            many = chance.randrange(5)
            deck = start(Deck, box, any_edits(box, many, chance)[0])
            wrong = [value for value in OTHER_VALUES if value is not None and type(value) is not int]
            for value in (*chance.sample(wrong, 6), True, False, -1, many + 1, many + 7, -many - 1, 10 ** 29):
                for query in (deck.box, deck.shown, deck.solid, deck.counts):
                    self.refuses(deck, NoVersion, {"value": value}, query, version=value)

    def test_no_edit(self):
        for chance, box in chances(82, small_boxes(0, 82)):
            many = chance.randrange(5)
            deck = start(Deck, box, any_edits(box, many, chance)[0])
            wrong = [value for value in OTHER_VALUES if type(value) is not int]
            for value in (*wrong, True, False, None, -1, many, many + 1, -many, 10 ** 29):
                if type(value) is not int or not 0 <= value < many:
                    self.refuses(deck, NoVersion, {"value": value}, deck.changes, value)

    def test_undone_versions_are_gone(self):
        deck = start(Deck, (2, (0,)), [("add", 1), ("add", 3)])
        deck.undo()
        self.refuses(deck, NoVersion, {"value": 2}, deck.box, version=2)
        self.refuses(deck, NoVersion, {"value": 1}, deck.changes, 1)
        self.same(deck.box(version=1), (2, (0, 1)))

    def test_versions_and_undos_agree(self):
        for chance, box in chances(83, small_boxes(1, 83)):
            deck = start(Deck, box, any_edits(box, 12, chance)[0])
            edits = deck.edits()
            changes = [deck.changes(number) for number in range(12)]
            queries = (deck.box, deck.shown, deck.solid, deck.counts)
            told = [[query(version=version) for query in queries] for version in range(13)]
            for version in range(12, -1, -1):
                self.same([query() for query in queries], told[version])
                self.same(deck.edits(), edits[:version])
                self.same([deck.changes(number) for number in range(version)], changes[:version])
                if version:
                    self.same(deck.undo(), version - 1)
            self.same(deck.box(), box)

    def test_version_is_a_keyword(self):
        deck = Deck((1, ()))
        for query in (deck.box, deck.shown, deck.solid, deck.counts):
            with self.assertRaises(TypeError):
                query(0)


class ChangesTest(DeckCase):
    def test_each_edit(self):
        for chance, box in chances(84, small_boxes(2, 84)):
            edits, boxes = any_edits(box, 8, chance)
            deck = start(Deck, box, edits)
            for undone in range(chance.randrange(4)):
                deck.undo()
            for number in range(len(deck)):
                changes = deck.changes(number)
                self.same(changes, wanted_changes(boxes[number], boxes[number + 1]))
                word = edits[number][0]
                if word == "flip":
                    self.same(changes, ((), (), (), ()))
                if word == "add":
                    self.same((changes[1], changes[3]), ((), ()))
                if word == "remove":
                    self.same((changes[0], changes[2]), ((), ()))
                if word == "press":
                    self.same((changes[0], changes[3]), ((), ()))

    def test_led_through_all_changes(self):
        for chance, box in chances(85, small_boxes(2, 85)):
            deck = start(Deck, box, any_edits(box, 10, chance)[0])
            shown, solid = set(deck.shown(version=0)), set(deck.solid(version=0))
            for number in range(10):
                gained, lost, became, stopped = [set(part) for part in deck.changes(number)]
                self.assertEqual((gained & shown, lost - shown, became & solid, stopped - solid), (set(),) * 4)
                shown, solid = (shown | gained) - lost, (solid | became) - stopped
                self.assertEqual(shown, set(deck.shown(version=number + 1)))
                self.assertEqual(solid, set(deck.solid(version=number + 1)))
                solid_many, many, shown_many = deck.counts(version=number + 1)
                self.assertLessEqual(solid_many, many)
                self.assertLessEqual(many, shown_many)
            self.assertEqual(shown, set(wanted_shown(deck.box())))
            self.assertEqual(solid, set(wanted_solid(deck.box())))

    def test_first_and_last_card(self):
        deck = start(Deck, (0, ()), [("add", 0), ("remove", 0)])
        self.same(deck.changes(0), ((0,), (), (0,), ()))
        self.same(deck.changes(1), ((), (0,), (), (0,)))
        self.same(start(Deck, (2, (0, 3)), [("press", 0)]).changes(0), ((), (1,), (2,), ()))


class FlippedDeckTest(DeckCase):
    def flipped_edit(self, edit, switches):
        word, value = edit
        return (word, value ^ switches) if word in ("add", "remove") else edit

    def test_both_decks(self):
        for chance, box in chances(86, small_boxes(2, 86)):
            n = box[0]
            switches = chance.randrange(2 ** n)
            deck, other = Deck(box), Deck(wanted_flipped(box, switches))
            for turn in range(10):
                edit = any_edit(deck.box(), chance)
                if edit[0] == "press" and switches // 2 ** edit[1] % 2:
                    edit = ("flip", edit[1])
                self.same(call(deck, edit), call(other, self.flipped_edit(edit, switches)))
                self.same(wanted_flipped(other.box(), switches), deck.box())
                told = [[one.shown(), one.solid(), one.counts(), one.changes(turn)] for one in (deck, other)]
                self.same(told[0], told[1])


class BatchTest(DeckCase):
    def test_batches_that_are_done(self):
        for chance, box in chances(87, sample_boxes(rounds=1, seed=87)):
            deck, boxes, edits = Deck(box), [box], []
            for turn in range(4):
                more, after = any_edits(boxes[-1], chance.randrange(9), chance)
                batch = chance.choice([list, tuple])(more)
                kept = copy.deepcopy(batch)
                edits, boxes = edits + more, boxes + after[1:]
                self.same(deck.attempt(batch), len(edits))
                self.is_at(deck, boxes, edits)
                self.same(batch, kept)
            for left in range(len(edits) - 1, -1, -1):
                self.same(deck.undo(), left)
            self.is_at(deck, [box], [])

    def wrong_edit(self, box, chance):
        """An edit that raises an error on this box."""
        n, cards = box
        wrong = [("add", chance.choice(no_cards(n))), ("remove", chance.choice(no_cards(n)))]
        wrong += [("flip", chance.choice(no_switches(n))), ("press", chance.choice(no_switches(n)))]
        wrong += [("add", card) for card in cards[:2]]
        wrong += [("remove", card) for card in range(2 ** n) if card not in cards][:2]
        return chance.choice(wrong)

    def test_rejected(self):
        for chance, box in chances(88, sample_boxes(rounds=1, seed=88)):
            deck = start(Deck, box, any_edits(box, 3, chance)[0])
            for turn in range(6):
                edits, boxes = any_edits(deck.box(), 8, chance)
                at = chance.randrange(8)
                edits[at] = self.wrong_edit(boxes[at], chance)
                batch = chance.choice([list, tuple])(edits[:at + 1 + chance.randrange(8)])
                self.refuses(deck, Rejected, {"index": at}, deck.attempt, batch)
            self.same(call(deck, any_edit(deck.box(), chance)), 4)

    NO_EDITS = (
        *NOT_NUMBERS, 0, "add", ("add",), ("add", 0, 0), ["add", 0], ("Add", 0), ("", 0), ("undo", 0), ("undo",),
        ("undo", None), ("attempt", ()), ("box", 0), (0, "add"), (None, 0), (True, 0), (["add"], 0), (("add",), 0),
        ({}, 0), ("add ", 0), {"add": 0}, ("edit", 0), ("stand", 0),
    )

    def test_items_that_are_no_edits(self):
        for chance, box in chances(89, sample_boxes(rounds=0, seed=89)):
            deck = start(Deck, box, any_edits(box, 2, chance)[0])
            for item in self.NO_EDITS:
                edits, boxes = any_edits(deck.box(), 6, chance)
                at = chance.randrange(6)
                edits[at] = item
                # Neither an earlier edit that fails nor a later item that is none comes first.
                if at > 0:
                    edits[chance.randrange(at)] = self.wrong_edit(deck.box(), chance)
                edits[chance.randrange(at, 6)] = item
                self.refuses(deck, BadEdit, {"index": at}, deck.attempt, chance.choice([list, tuple])(edits))

    def test_no_batches(self):
        for box in ((0, ()), (2, (0, 1, 3))):
            deck = Deck(box)
            for value in OTHER_VALUES:
                if type(value) not in (list, tuple) or len(value) > 20:
                    self.refuses(deck, BadEdits, {}, deck.attempt, value)
                elif value:
                    self.refuses(deck, BadEdit, {"index": 0}, deck.attempt, value)
            for value in ({"add": 0}, "add", ("add", 0), ["add", 0]):
                kind, fields = (BadEdit, {"index": 0}) if type(value) in (list, tuple) else (BadEdits, {})
                self.refuses(deck, kind, fields, deck.attempt, value)

    def test_lengths(self):
        flips = [("flip", 0)] * 20
        for kind in (list, tuple):
            deck = Deck((1, (0,)))
            self.same(deck.attempt(kind([])), 0)
            self.same(deck.attempt(kind(flips)), 20)
            self.refuses(deck, BadEdits, {}, deck.attempt, kind(flips + [("flip", 0)]))
            self.refuses(deck, BadEdits, {}, deck.attempt, kind(flips + [None]))
            self.refuses(deck, BadEdits, {}, deck.attempt, kind([None] * 21))
            self.refuses(deck, BadEdit, {"index": 0}, deck.attempt, kind([None] * 20))
            self.same(deck.attempt(kind([])), 20)

    def test_a_batch_that_is_changed_later(self):
        deck, batch = Deck((2, (0,))), [("add", 1), ("flip", 0)]
        deck.attempt(batch)
        batch[0] = ("add", 3)
        batch.append(("flip", 1))
        self.same(deck.edits(), (("add", 1), ("flip", 0)))
        self.is_at(deck, [(2, (0,)), (2, (0, 1)), (2, (0, 1))], [("add", 1), ("flip", 0)])


class SixtyEditsTest(DeckCase):
    def full_deck(self, box, chance, batches):
        edits, boxes = any_edits(box, 60, chance)
        deck = Deck(box)
        if batches:
            for first in (0, 20, 40):
                self.same(deck.attempt(edits[first:first + 20]), first + 20)
        else:
            for turn, edit in enumerate(edits):
                self.same(call(deck, edit), turn + 1)
        self.is_at(deck, boxes, edits)
        return deck

    def some_boxes(self):
        return [box for n in range(1, 7) for box in boxes_of(n, 1, 90)]

    def test_one_more(self):
        for chance, box in chances(90, self.some_boxes()):
            deck = self.full_deck(box, chance, chance.randrange(2))
            right = any_edit(deck.box(), chance)
            for value in (right[1], 0, 1, *chance.sample(no_cards(box[0]), 3), *chance.sample(no_switches(box[0]), 3)):
                for word in WORDS:
                    self.refuses(deck, TooManyEdits, {}, getattr(deck, word), value)
            self.refuses(deck, Rejected, {"index": 0}, deck.attempt, [right])
            self.refuses(deck, BadEdit, {"index": 1}, deck.attempt, [right, None])
            self.refuses(deck, BadEdits, {}, deck.attempt, None)
            self.same(deck.attempt([]), 60)

    def test_after_undo(self):
        for chance, box in chances(91, self.some_boxes()):
            deck = self.full_deck(box, chance, True)
            self.same(deck.undo(), 59)
            self.same(call(deck, any_edit(deck.box(), chance)), 60)
            self.refuses(deck, TooManyEdits, {}, deck.flip, 0)

    def test_batch_over_the_bound(self):
        for chance, box in chances(92, self.some_boxes()):
            deck = self.full_deck(box, chance, True)
            for undone in range(1, 6):
                deck.undo()
                edits, boxes = any_edits(deck.box(), undone + 3, chance)
                self.refuses(deck, Rejected, {"index": undone}, deck.attempt, edits)
            self.same(deck.attempt(edits[:5]), 60)

    def test_smooth_deck(self):
        deck = SmoothDeck((2, (0, 1)))
        for turn in range(60):
            deck.flip(0)
        for word in WORDS:
            for value in (0, 1, 3, None, True, []):
                self.refuses(deck, TooManyEdits, {}, getattr(deck, word), value)
        self.same([deck.addable(), deck.removable()], [(2, 3), (0, 1)])
        deck.undo()
        self.same(deck.add(3), 60)


class EqualTest(DeckCase):
    def test_present_boxes_decide(self):
        for chance, box in chances(93, small_boxes(1, 93)):
            deck = start(Deck, box, any_edits(box, chance.randrange(9), chance)[0])
            other = start(Deck, box, any_edits(box, chance.randrange(9), chance)[0])
            for undone in range(chance.randrange(len(deck) + 1)):
                deck.undo()
            self.judge(deck, other)
            self.judge(deck, Deck(deck.box()))
            self.judge(Deck(box), deck)

    def judge(self, deck, other):
        equal = deck.box() == other.box()
        self.same([deck == other, other == deck, deck != other, other != deck], [equal, equal, not equal, not equal])

    def test_smooth_decks_are_others(self):
        for box in ((0, ()), (0, (0,)), (2, (0, 1, 3)), (3, (0, 1))):
            deck, smooth = Deck(box), SmoothDeck(box)
            self.same([deck == smooth, smooth == deck, deck != smooth, smooth != deck], [False, False, True, True])
            self.same([deck == deck, deck == Deck(box), smooth == smooth, smooth == SmoothDeck(box)], [True] * 4)
            self.same([smooth == SmoothDeck((4, ())), SmoothDeck((4, ())) == smooth], [False, False])

    def test_other_numbers_of_switches(self):
        self.same([Deck((1, ())) == Deck((2, ())), Deck((1, (0,))) == Deck((2, (0,)))], [False, False])
        self.same([Deck((0, ())) == Deck((0, ())), Deck((0, ())) == Deck((0, (0,)))], [True, False])

    def test_other_values(self):
        for deck in (Deck((2, (0, 1, 3))), SmoothDeck((2, (0, 1, 3))), Deck((0, ()))):
            for value in (*OTHER_VALUES, deck.box(), str(deck), len(deck), [deck.box()], deck.edits(), Deck, object()):
                self.same([deck == value, value == deck, deck != value, value != deck], [False, False, True, True])

    def test_edits_of_one_do_not_affect_the_other(self):
        for chance, box in chances(94, small_boxes(0, 94)):
            first, second = Deck(box), Deck(box)
            before = state_of(second)
            for turn in range(8):
                call(first, any_edit(first.box(), chance))
                self.same(state_of(second), before)
            self.same(first == second, first.box() == box)
            while len(first):
                first.undo()
            self.same([first == second, state_of(first) == before], [True, True])

    def test_later_changes_of_results(self):
        deck = start(Deck, (2, (0, 1)), [("add", 3)])
        before = state_of(deck)
        results = [deck.box(), deck.shown(), deck.solid(), deck.counts(), deck.edits(), deck.changes(0)]
        for result in results:
            self.assertIsInstance(result, tuple)
        deck.flip(0)
        self.same(results[4], (("add", 3),))
        deck.undo()
        self.same(state_of(deck), before)


class ManyDecksTest(DeckCase):
    def test_all_small_boxes_and_all_edits(self):
        for n in range(3):
            for box in every_box(n):
                for word in WORDS:
                    for value in range(-1, 2 ** n + 1):
                        self.one_edit(box, (word, value))

    def one_edit(self, box, edit):
        n, cards = box
        word, value = edit
        deck = Deck(box)
        if word == "add":
            kind = None if 0 <= value < 2 ** n and value not in cards else Present if value in cards else NoCard
        elif word == "remove":
            kind = None if value in cards else Absent
        else:
            kind = None if 0 <= value < n else NoSwitch
        if kind is None:
            self.same(call(deck, edit), 1)
            self.is_at(deck, [box, edited(box, edit)], [edit])
        else:
            self.refuses(deck, kind, {"value": value}, getattr(deck, word), value)
            self.refuses(deck, Rejected, {"index": 0}, deck.attempt, [edit])


if __name__ == "__main__":
    unittest.main()
