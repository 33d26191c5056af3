"""Point 11, and (f) and (g) of point 2: pressing, closed boxes, and orders."""

import itertools
import random
import unittest

from tests.samples import (
    PATTERNS,
    StrictCase,
    boxes_of,
    closed_box,
    digits_of,
    every_box,
    grown_boxes,
    many_boxes,
    orders_of,
    other_cards,
    sample_boxes,
    smooth_boxes,
    wanted_pressed,
    wanted_pressed_all,
    wanted_rough,
    wanted_shown,
    wanted_solid,
    with_card,
    without_card,
)

from cardboxes.cubes import is_solid, solid_sets
from cardboxes.pressing import is_closed, press_all, press_switch, shown_order, solid_order
from cardboxes.shown import is_shown, shown_sets
from cardboxes.smooth import is_smooth


def wanted_closed(box):
    n, cards = box
    return all(set(PATTERNS[n][card]) <= set(cards) for card in cards)


def boxes_up_to(n, seed):
    """All boxes of at most three switches, and for four and more any boxes and smooth ones."""
    found = [box for many in range(min(n, 3) + 1) for box in every_box(many)]
    for many in range(4, n + 1):
        found += list(boxes_of(many, 3, seed))
        found += list(grown_boxes(many, many, seed))
    return found


class PressTest(StrictCase):
    def test_each_switch(self):
        for box in many_boxes():
            for switch in range(box[0]):
                pressed = wanted_pressed(box, switch)
                self.check(press_switch, (box, switch), pressed)
                self.assertEqual(len(pressed[1]), len(box[1]))
                self.same(press_switch(pressed, switch), pressed)

    def test_each_card(self):
        for box in sample_boxes(rounds=2, seed=51):
            for switch in range(box[0]):
                pressed = press_switch(box, switch)[1]
                for card in range(2 ** box[0]):
                    if card // 2 ** switch % 2 == 0:
                        pair = [one in box[1] for one in (card, card + 2 ** switch)]
                        after = [one in pressed for one in (card, card + 2 ** switch)]
                        self.assertEqual(after, sorted(pair, reverse=True))

    def test_written_boxes(self):
        self.same(press_switch((2, (1, 3)), 0), (2, (0, 2)))
        self.same(press_switch((2, (1, 3)), 1), (2, (1, 3)))
        self.same(press_switch((2, (2, 3)), 0), (2, (2, 3)))
        self.same(press_switch((3, (4, 5, 6, 7)), 2), (3, (0, 1, 2, 3)))
        self.same(press_switch((3, (1, 2, 4)), 0), (3, (0, 2, 4)))
        self.same(press_switch((3, (0, 5)), 2), (3, (0, 1)))

    def test_edges(self):
        self.same(press_switch((1, ()), 0), (1, ()))
        self.same(press_switch((1, (1,)), 0), (1, (0,)))
        self.same(press_switch((1, (0, 1)), 0), (1, (0, 1)))
        self.same(press_switch((6, (63,)), 5), (6, (31,)))
        self.same(press_switch((6, (31, 63)), 5), (6, (31, 63)))
        self.same(press_switch((6, tuple(range(64))), 0), (6, tuple(range(64))))


class PressAllTest(StrictCase):
    def test_orders(self):
        chance = random.Random(52)
        for box in many_boxes():
            orders = itertools.permutations(range(box[0])) if box[0] < 4 else orders_of(box[0], 2, chance)
            for order in orders:
                wanted = wanted_pressed_all(box, order)
                self.check(press_all, (box, order), wanted)
                one_by_one = box
                for switch in order:
                    one_by_one = press_switch(one_by_one, switch)
                self.same(one_by_one, wanted)

    def test_the_order_matters(self):
        box = (2, (0, 3))
        self.same(press_all(box, (0, 1)), (2, (0, 2)))
        self.same(press_all(box, (1, 0)), (2, (0, 1)))

    def test_edges(self):
        self.same(press_all((0, ()), ()), (0, ()))
        self.same(press_all((0, (0,)), ()), (0, (0,)))
        self.same(press_all((6, ()), (5, 4, 3, 2, 1, 0)), (6, ()))
        self.same(press_all((6, (63,)), (5, 0, 3, 2, 1, 4)), (6, (0,)))


class ClosedTest(StrictCase):
    def judge(self, box):
        self.check(is_closed, (box,), wanted_closed(box))

    def test_many_boxes(self):
        for box in many_boxes():
            self.judge(box)

    def test_closed_boxes_and_one_card_more_or_fewer(self):
        chance = random.Random(53)
        seen = []
        for n in range(7):
            for turn in range(8):
                box = closed_box(n, [chance.randrange(2 ** n) for card in range(turn)])
                self.same(is_closed(box), True)
                near = [without_card(box, card) for card in box[1]]
                near += [with_card(box, card) for card in other_cards(box)]
                for other in near:
                    self.judge(other)
                    seen.append(wanted_closed(other))
        self.assertEqual(set(seen), {False, True})

    def test_edges(self):
        for n in range(7):
            self.same(is_closed((n, ())), True)
            self.same(is_closed((n, (0,))), True)
            self.same(is_closed((n, tuple(range(2 ** n)))), True)
            if n > 0:
                self.same(is_closed((n, tuple(range(1, 2 ** n)))), False)
                self.same(is_closed((n, tuple(range(2 ** n - 1)))), True)
        self.same(is_closed((2, (0, 1, 3))), False)
        self.same(is_closed((2, (0, 1, 2, 3))), True)
        self.same(is_closed((3, (0, 1, 2, 4, 7))), False)


class OrdersTest(StrictCase):
    def test_all_sets(self):
        for n in range(7):
            for switches in range(2 ** n):
                word = digits_of(n, switches)
                inside = tuple(k for k in range(n) if word[k] == "1")
                outside = tuple(k for k in range(n) if word[k] == "0")
                self.check(shown_order, (n, switches), outside + inside)
                self.check(solid_order, (n, switches), inside + outside)

    def test_edges(self):
        self.same([shown_order(0, 0), solid_order(0, 0)], [(), ()])
        self.same([shown_order(3, 0), solid_order(3, 0)], [(0, 1, 2), (0, 1, 2)])
        self.same([shown_order(3, 7), solid_order(3, 7)], [(0, 1, 2), (0, 1, 2)])


class OnePressTest(StrictCase):
    def test_sets_before_and_after(self):
        for box in boxes_up_to(5, 54):
            shown, solid = set(wanted_shown(box)), set(wanted_solid(box))
            smooth = wanted_rough(box) is None
            for switch in range(box[0]):
                pressed = press_switch(box, switch)
                self.assertEqual(len(pressed[1]), len(box[1]))
                self.assertLessEqual(solid, set(solid_sets(pressed)))
                self.assertLessEqual(set(shown_sets(pressed)), shown)
                if smooth:
                    self.same(is_smooth(pressed), True)


class AllPressedTest(StrictCase):
    def test_closed_between_solid_and_shown(self):
        chance = random.Random(55)
        for box in boxes_up_to(5, 55):
            solid, shown = set(solid_sets(box)), set(shown_sets(box))
            for order in orders_of(box[0], 3, chance):
                pressed = press_all(box, order)
                cards = set(pressed[1])
                self.same(is_closed(pressed), True)
                self.assertEqual(len(cards), len(box[1]))
                self.assertLessEqual(solid, cards)
                self.assertLessEqual(cards, shown)

    def test_pressed_again(self):
        chance = random.Random(56)
        for box in boxes_up_to(5, 56):
            for order in orders_of(box[0], 1, chance):
                pressed = press_all(box, order)
                for again in orders_of(box[0], 2, chance):
                    self.same(press_all(pressed, again), pressed)
                self.same(shown_sets(pressed), pressed[1])
                self.same(solid_sets(pressed), pressed[1])


class EachOrderTest(StrictCase):
    def pressed_boxes(self, box):
        return [set(press_all(box, order)[1]) for order in itertools.permutations(range(box[0]))]

    def test_shown_and_solid_by_pressing(self):
        for box in boxes_up_to(4, 57):
            found = self.pressed_boxes(box)
            self.assertEqual(set().union(*found), set(shown_sets(box)))
            self.assertEqual(found[0].intersection(*found), set(solid_sets(box)))
            self.assertEqual(set(wanted_shown(box)), set(shown_sets(box)))
            self.assertEqual(set(wanted_solid(box)), set(solid_sets(box)))

    def test_shown_order_and_solid_order(self):
        for box in boxes_up_to(4, 58):
            n = box[0]
            for switches in range(2 ** n):
                shown = switches in press_all(box, shown_order(n, switches))[1]
                solid = switches in press_all(box, solid_order(n, switches))[1]
                self.same(is_shown(box, switches), shown)
                self.same(is_solid(box, switches), solid)

    def test_orders_agree_exactly_in_smooth_boxes(self):
        for box in boxes_up_to(4, 59):
            found = self.pressed_boxes(box)
            agree = all(cards == found[0] for cards in found)
            self.same(is_smooth(box), agree)
            self.same(wanted_rough(box) is None, agree)

    def test_smooth_boxes(self):
        chance = random.Random(60)
        for box in smooth_boxes():
            for order in orders_of(box[0], 2, chance):
                pressed = press_all(box, order)
                self.same(pressed[1], shown_sets(box))
                self.same(pressed[1], solid_sets(box))


if __name__ == "__main__":
    unittest.main()
