"""Point 14: smooth decks, and the cards that can be added to them or removed from them."""

import random
import unittest

from tests.deck_samples import (
    DeckCase,
    any_edit,
    any_smooth_edit,
    call,
    chances,
    edited,
    edits_for,
    no_cards,
    no_switches,
    start,
    state_of,
)
from tests.samples import (
    NOT_NUMBERS,
    boxes_of,
    closed_box,
    every_box,
    grown_boxes,
    many_boxes,
    other_cards,
    smooth_boxes,
    wanted_flipped,
    wanted_rough,
    wanted_shown,
    wanted_solid,
    with_card,
    without_card,
)

from cardboxes.boxes import opposite_box
from cardboxes.decks import Deck, SmoothDeck
from cardboxes.errors import Absent, BadBox, BadEdit, BadEdits, NoCard, NoSwitch, Present, Rejected, Rough
from cardboxes.smooth import is_smooth


def wanted_addable(box):
    return tuple(card for card in other_cards(box) if wanted_rough(with_card(box, card)) is None)


def wanted_removable(box):
    return tuple(card for card in box[1] if wanted_rough(without_card(box, card)) is None)


def smooth_up_to(n, seed):
    """All smooth boxes of at most two switches, some of three and more."""
    chance = random.Random(seed)
    found = [box for many in range(3) for box in every_box(many) if wanted_rough(box) is None]
    for many in range(3, n + 1):
        found += [(many, ()), (many, tuple(range(2 ** many))), (many, (chance.randrange(2 ** many),))]
        found += list(grown_boxes(many, many, seed))
        for turn in range(3):
            closed = closed_box(many, [chance.randrange(2 ** many) for card in range(3)])
            found.append(wanted_flipped(closed, chance.randrange(2 ** many)))
    return found


class NewSmoothDeckTest(DeckCase):
    def test_boxes(self):
        seen = set()
        for box in many_boxes():
            if box[0] < 6:
                rough = wanted_rough(box)
                seen.add(rough is None)
                if rough is None:
                    self.is_at(SmoothDeck(box), [box], [])
                else:
                    self.raises(Rough, {"switches": rough}, SmoothDeck, box)
        self.assertEqual(seen, {False, True})

    def test_a_subclass(self):
        self.assertTrue(issubclass(SmoothDeck, Deck))
        for name in ("__init__", "add", "remove", "addable", "removable"):
            self.assertIn(name, vars(SmoothDeck))
        for name in ("addable", "removable"):
            self.assertFalse(hasattr(Deck, name))

    def test_no_box_comes_first(self):
        for value, error in (
            ((2, (0, 3, 3)), (2, "order")), ((2, [0, 3]), (None, "cards")), ((7, (0, 3)), (None, "switches")),
            ((2, (0, 3, 4)), (2, "card")), ([2, (0, 3)], (None, "tuple")), ((2, (0, 3, True)), (2, "card")),
        ):
            self.raises(BadBox, {"error": error}, SmoothDeck, value)

    def test_other_values(self):
        for value in NOT_NUMBERS:
            self.raises(BadBox, {"error": (None, "tuple")}, SmoothDeck, value)


class SmoothEditsTest(DeckCase):
    def one_edit(self, deck, boxes, edits, edit):
        """Do the edit, or see it refused; boxes and edits follow."""
        after = edited(boxes[-1], edit)
        rough = wanted_rough(after)
        if rough is None:
            boxes.append(after)
            edits.append(edit)
            self.same(call(deck, edit), len(edits))
        else:
            self.assertIn(edit[0], ("add", "remove"))
            self.refuses(deck, Rough, {"switches": rough}, getattr(deck, edit[0]), edit[1])
            self.refuses(deck, Rejected, {"index": 0}, deck.attempt, [edit])
        self.is_at(deck, boxes, edits)
        self.same(is_smooth(deck.box()), True)
        return rough is None

    def test_edits_of_all_kinds(self):
        seen = []
        for chance, box in chances(101, smooth_up_to(5, 101)):
            deck, boxes, edits = SmoothDeck(box), [box], []
            for turn in range(6):
                seen.append(self.one_edit(deck, boxes, edits, any_edit(boxes[-1], chance)))
            while edits:
                edits.pop()
                boxes.pop()
                self.same(deck.undo(), len(edits))
                self.is_at(deck, boxes, edits)
        self.assertEqual(set(seen), {False, True})

    def test_all_edits_of_small_boxes(self):
        for box in (box for n in range(4) for box in every_box(n) if wanted_rough(box) is None):
            for edit in edits_for(box):
                self.one_edit(SmoothDeck(box), [box], [], edit)

    def test_other_errors_come_first(self):
        for chance, box in chances(102, smooth_up_to(4, 102)):
            deck, n = SmoothDeck(box), box[0]
            for value in no_cards(n):
                self.refuses(deck, NoCard, {"value": value}, deck.add, value)
                self.refuses(deck, Absent, {"value": value}, deck.remove, value)
            for card in range(2 ** n):
                if card in box[1]:
                    self.refuses(deck, Present, {"value": card}, deck.add, card)
                else:
                    self.refuses(deck, Absent, {"value": card}, deck.remove, card)
            for value in no_switches(n):
                self.refuses(deck, NoSwitch, {"value": value}, deck.flip, value)
                self.refuses(deck, NoSwitch, {"value": value}, deck.press, value)

    def test_batches(self):
        seen = set()
        for chance, box in chances(103, smooth_up_to(5, 103)):
            deck, boxes, edits = SmoothDeck(box), [box], []
            for turn in range(4):
                more, after = [], [boxes[-1]]
                for step in range(chance.randrange(5)):
                    pick = any_edit if chance.randrange(4) == 0 else any_smooth_edit
                    more.append(pick(after[-1], chance))
                    after.append(edited(after[-1], more[-1]))
                wrong = [at for at in range(len(more)) if wanted_rough(after[at + 1]) is not None]
                seen.add(bool(wrong))
                if wrong:
                    self.refuses(deck, Rejected, {"index": wrong[0]}, deck.attempt, more)
                else:
                    boxes, edits = boxes + after[1:], edits + more
                    self.same(deck.attempt(more), len(edits))
                self.is_at(deck, boxes, edits)
        self.assertEqual(seen, {False, True})

    def test_smooth_only_at_the_end(self):
        # After both cards the box would be smooth, but the first of them leaves it rough.
        deck = SmoothDeck((2, (0,)))
        self.refuses(deck, Rejected, {"index": 0}, deck.attempt, [("add", 3), ("add", 1)])
        self.same(deck.attempt([("add", 1), ("add", 3)]), 2)
        self.refuses(deck, Rejected, {"index": 1}, deck.attempt, [("flip", 0), ("remove", 0)])
        self.refuses(deck, BadEdit, {"index": 1}, deck.attempt, [("remove", 1), ("undo", 0)])
        self.refuses(deck, BadEdits, {}, deck.attempt, "add")

    def test_plain_decks_become_rough(self):
        deck = Deck((2, (0,)))
        self.same([deck.add(3), is_smooth(deck.box())], [1, False])

    def test_rough_set_of_the_box_after_the_edit(self):
        self.refuses_edit(SmoothDeck((2, (0,))), ("add", 3), 1)
        self.refuses_edit(SmoothDeck((2, (1,))), ("add", 2), 1)
        self.refuses_edit(SmoothDeck((2, (0, 1, 3))), ("remove", 1), 1)
        self.refuses_edit(SmoothDeck((3, (0, 1))), ("add", 6), 2)
        self.refuses_edit(SmoothDeck((3, (0, 1, 2, 3, 4, 5, 6))), ("remove", 0), 3)

    def refuses_edit(self, deck, edit, rough):
        self.assertEqual(wanted_rough(edited(deck.box(), edit)), rough)
        self.refuses(deck, Rough, {"switches": rough}, getattr(deck, edit[0]), edit[1])


class AddableTest(DeckCase):
    def judge(self, deck):
        before = state_of(deck)
        box = deck.box()
        self.same(deck.addable(), wanted_addable(box))
        self.same(deck.removable(), wanted_removable(box))
        self.same([deck.addable(), deck.removable()], [wanted_addable(box), wanted_removable(box)])
        self.same(state_of(deck), before)

    def test_all_small_boxes(self):
        for box in smooth_boxes():
            if box[0] < 5:
                self.judge(SmoothDeck(box))

    def test_larger_boxes(self):
        for box in smooth_up_to(5, 104):
            if box[0] == 5:
                self.judge(SmoothDeck(box))
        for box in (few for few in boxes_of(6, 0, 104) if wanted_rough(few) is None):
            self.judge(SmoothDeck(box))

    def test_after_edits(self):
        for chance, box in chances(105, smooth_up_to(4, 105)):
            deck = SmoothDeck(box)
            for turn in range(5):
                self.judge(deck)
                if len(deck) and chance.randrange(4) == 0:
                    deck.undo()
                else:
                    edits = [("add", card) for card in deck.addable()] + [("remove", card) for card in deck.removable()]
                    version = len(deck)
                    self.same(call(deck, chance.choice(edits)), version + 1)
            self.judge(deck)

    def test_each_of_them_is_accepted(self):
        for box in smooth_up_to(4, 106):
            deck = SmoothDeck(box)
            for card in range(2 ** box[0]):
                edit = ("remove", card) if card in box[1] else ("add", card)
                if card in deck.addable() + deck.removable():
                    self.same([call(deck, edit), deck.undo()], [1, 0])
                else:
                    rough = wanted_rough(edited(box, edit))
                    self.refuses(deck, Rough, {"switches": rough}, getattr(deck, edit[0]), card)

    def test_edges(self):
        for n in range(5):
            everything = tuple(range(2 ** n))
            self.same([SmoothDeck((n, ())).addable(), SmoothDeck((n, ())).removable()], [everything, ()])
            full = SmoothDeck((n, everything))
            self.same([full.addable(), full.removable()], [(), everything])
            one = SmoothDeck((n, (0,)))
            self.same([one.addable(), one.removable()], [tuple(2 ** k for k in range(n)), (0,)])

    def test_opposite_and_flipped_boxes(self):
        for chance, box in chances(107, smooth_up_to(4, 107)):
            deck = SmoothDeck(box)
            for turn in range(4):
                self.compare(deck.box())
                edits = [("add", card) for card in deck.addable()] + [("remove", card) for card in deck.removable()]
                call(deck, chance.choice(edits))
                solid, many, shown = deck.counts()
                self.assertEqual((solid, shown), (many, many))
            self.compare(deck.box())

    def compare(self, box):
        """The opposite box exchanges both answers, and flipping all switches flips them."""
        n = box[0]
        deck, opposite = SmoothDeck(box), SmoothDeck(opposite_box(box))
        self.same(opposite.addable(), deck.removable())
        self.same(opposite.removable(), deck.addable())
        flipped = SmoothDeck(wanted_flipped(box, 2 ** n - 1))
        for there, here in ((flipped.addable(), deck.addable()), (flipped.removable(), deck.removable())):
            self.same((n, there), wanted_flipped((n, here), 2 ** n - 1))


class LongWayTest(DeckCase):
    def any_way_on(self, deck, chance):
        edits = {"add": deck.addable(), "remove": deck.removable()}
        edits["flip"] = edits["press"] = range(deck.box()[0])
        word = chance.choice([word for word, values in edits.items() if values])
        return (word, chance.choice(edits[word]))

    def test_twenty_edits(self):
        starts = []
        for n in range(5):
            starts += [(n, ()), (n, tuple(range(2 ** n))), (n, (2 ** n - 1,))]
        for chance, box in chances(108, starts * 3):
            deck, plain = SmoothDeck(box), Deck(box)
            for turn in range(20):
                edit = self.any_way_on(deck, chance)
                self.same([call(deck, edit), call(plain, edit)], [turn + 1, turn + 1])
                solid, many, shown = deck.counts()
                self.assertEqual((solid, shown), (many, many))
                self.same(deck.shown(), deck.solid())
                self.same(deck.shown(), wanted_shown(deck.box()))
                self.same(deck.solid(), wanted_solid(deck.box()))
                self.same([plain.box(), plain.edits(), len(plain)], [deck.box(), deck.edits(), len(deck)])
                self.same(plain.changes(turn), deck.changes(turn))
            while len(deck):
                deck.undo()
            self.is_at(deck, [box], [])
            self.same(deck == SmoothDeck(box), True)

    def test_edits_attempted_again(self):
        for chance, box in chances(109, smooth_up_to(4, 109)):
            deck = SmoothDeck(box)
            for turn in range(10):
                call(deck, self.any_way_on(deck, chance))
            again = SmoothDeck(box)
            self.same(again.attempt(list(deck.edits())), 10)
            self.same(state_of(again), state_of(deck))
            self.same(start(SmoothDeck, box, deck.edits()) == deck, True)


if __name__ == "__main__":
    unittest.main()
