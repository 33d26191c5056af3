"""Point 4: is_box, box_error, opposite_box, card_distance, size_of."""

import random
import unittest

from tests.samples import NOT_NUMBERS, OTHER_VALUES, StrictCase, every_box, sample_boxes

from cardboxes.boxes import box_error, card_distance, is_box, opposite_box, size_of


def wanted_error(value):
    if type(value) is not tuple or len(value) != 2:
        return (None, "tuple")
    if type(value[0]) is not int or value[0] not in (0, 1, 2, 3, 4, 5, 6):
        return (None, "switches")
    if type(value[1]) is not tuple:
        return (None, "cards")
    allowed = list(range(2 ** value[0]))
    for index, card in enumerate(value[1]):
        if type(card) is not int or card not in allowed:
            return (index, "card")
        if index and card <= value[1][index - 1]:
            return (index, "order")
    return None


def changed_cards(cards, n, chance):
    """One change: a card replaced, inserted, repeated, moved, left out, or no tuple any more."""
    cards = list(cards)
    at = chance.randrange(len(cards) + 1)
    part = chance.choice([chance.randrange(-1, 2 ** n + 2), 2 ** n, -1, *NOT_NUMBERS])
    way = chance.randrange(6)
    if way == 0 or not cards:
        cards.insert(at, part)
    elif way == 1:
        cards[at - 1] = part
    elif way == 2:
        cards.insert(at, cards[at - 1])
    elif way == 3:
        cards.insert(at, cards.pop(chance.randrange(len(cards))))
    elif way == 4:
        del cards[at - 1]
    else:
        return cards
    return tuple(cards)


def changed_box(value, chance):
    n, cards = value
    way = chance.randrange(10)
    if way == 0:
        return (chance.choice([n - 1, n + 1, 7, -1, 10 ** 29, *NOT_NUMBERS]), cards)
    if way == 1:
        return [n, cards]
    if way == 2:
        return (n, chance.choice([None, 0, "0", list(cards), {"0": 0}]))
    return (n, changed_cards(cards, n, chance))


def changed_boxes(changes):
    """Sample boxes with so many changes, as long as the value is a box in form."""
    chance = random.Random(changes)
    for box in sample_boxes(rounds=4):
        for turn in range(12):
            value = box
            for step in range(changes):
                form = type(value) is tuple and len(value) == 2 and type(value[1]) is tuple
                if form and type(value[0]) is int and 0 <= value[0] <= 6:
                    value = changed_box(value, chance)
            yield value


class BoxFormTest(StrictCase):
    def judge(self, value):
        self.check(box_error, (value,), wanted_error(value))
        self.check(is_box, (value,), wanted_error(value) is None)

    def test_boxes(self):
        for box in sample_boxes():
            self.check(is_box, (box,), True)
            self.check(box_error, (box,), None)

    def test_changed_boxes(self):
        for changes in (1, 2, 3):
            for value in changed_boxes(changes):
                self.judge(value)

    def test_other_values(self):
        for value in OTHER_VALUES:
            self.judge(value)
            self.judge((2, value))
            self.judge((value, (0,)))
            self.judge((2, (0, value)))
            self.judge((0, (value,)))

    def test_all_short_tuples_of_small_numbers(self):
        for n in range(3):
            boxes = set(every_box(n))
            for first in range(-1, 6):
                for second in range(-1, 6):
                    value = (n, (first, second))
                    self.check(is_box, (value,), value in boxes)

    def test_edges(self):
        cases = [
            ((0, ()), None),
            ((0, (0,)), None),
            ((6, tuple(range(64))), None),
            ((6, (63,)), None),
            ([2, (0, 1)], (None, "tuple")),
            ((2,), (None, "tuple")),
            ((), (None, "tuple")),
            ((2, (), ()), (None, "tuple")),
            ((-1, ()), (None, "switches")),
            ((7, ()), (None, "switches")),
            ((True, (0,)), (None, "switches")),
            ((False, ()), (None, "switches")),
            (("2", [4]), (None, "switches")),
            ((2, [0, 1]), (None, "cards")),
            ((2, None), (None, "cards")),
            ((0, (1,)), (0, "card")),
            ((2, (4,)), (0, "card")),
            ((6, (0, 64)), (1, "card")),
            ((2, (-1, 0)), (0, "card")),
            ((2, (0, True)), (1, "card")),
            ((2, (False, 1)), (0, "card")),
            ((2, (0, (1,))), (1, "card")),
            ((2, (1, 1)), (1, "order")),
            ((2, (0, 2, 1)), (2, "order")),
            ((2, (1, 0, 9)), (1, "order")),
            ((2, (0, 9, 1)), (1, "card")),
            ((2, (3, -1)), (1, "card")),
            ((2, (3, True)), (1, "card")),
        ]
        for value, wanted in cases:
            self.check(box_error, (value,), wanted)
            self.check(is_box, (value,), wanted is None)


class OppositeBoxTest(StrictCase):
    def test_all_other_cards(self):
        for box in sample_boxes():
            n, cards = box
            wanted = (n, tuple(sorted(set(range(2 ** n)) - set(cards))))
            self.check(opposite_box, (box,), wanted)
            self.same(opposite_box(opposite_box(box)), box)

    def test_edges(self):
        self.check(opposite_box, ((0, ()),), (0, (0,)))
        self.check(opposite_box, ((0, (0,)),), (0, ()))
        self.check(opposite_box, ((6, ()),), (6, tuple(range(64))))


class SizeTest(StrictCase):
    def test_distance(self):
        for first in range(64):
            for second in range(64):
                pairs = zip(f"{first:06b}", f"{second:06b}")
                self.same(card_distance(first, second), sum(a != b for a, b in pairs))

    def test_size(self):
        for switches in range(64):
            self.check(size_of, (switches,), f"{switches:b}".count("1"))

    def test_beyond_the_bound(self):
        self.same(size_of(255), 8)
        self.same(card_distance(128, 1), 2)


if __name__ == "__main__":
    unittest.main()
