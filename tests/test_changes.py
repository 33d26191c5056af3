"""Point 9: flipped, renamed and added switches, and products of boxes."""

import itertools
import random
import unittest

from tests.samples import (
    StrictCase,
    box_of_digits,
    boxes_of,
    closed_box,
    digits_in,
    every_box,
    grown_boxes,
    many_boxes,
    orders_of,
    sample_boxes,
    smooth_boxes,
    wanted_flipped,
    wanted_rough,
    wanted_shown,
    wanted_solid,
)

from cardboxes.boxes import box_error, opposite_box
from cardboxes.changes import add_fixed, add_free, flip_switches, product_box, rename_switches
from cardboxes.cubes import solid_sets
from cardboxes.errors import BoxError, TooManySwitches
from cardboxes.shown import patterns_of, shown_sets
from cardboxes.smooth import is_smooth, set_counts


def some_sets(n, chance):
    """All sets of a few switches, some of many, the empty one and all switches."""
    if n < 5:
        return list(range(2 ** n))
    return [0, 2 ** n - 1] + chance.sample(range(2 ** n), 8)


class FlipTest(StrictCase):
    def test_each_set(self):
        chance = random.Random(31)
        for box in sample_boxes(seed=31):
            for switches in some_sets(box[0], chance):
                self.check(flip_switches, (box, switches), wanted_flipped(box, switches))

    def test_twice_and_one_after_another(self):
        chance = random.Random(32)
        for box in sample_boxes(rounds=1, seed=32):
            for first in some_sets(box[0], chance):
                flipped = flip_switches(box, first)
                self.same(flip_switches(flipped, first), box)
                for second in some_sets(box[0], chance):
                    in_one = sum(2 ** k for k in range(box[0]) if (first >> k) % 2 != (second >> k) % 2)
                    self.same(flip_switches(flipped, second), flip_switches(box, in_one))

    def test_shown_and_solid_sets_stay(self):
        chance = random.Random(33)
        for box in sample_boxes(rounds=1, seed=33):
            shown, solid = wanted_shown(box), wanted_solid(box)
            for switches in some_sets(box[0], chance):
                flipped = flip_switches(box, switches)
                self.same(shown_sets(flipped), shown)
                self.same(solid_sets(flipped), solid)

    def test_patterns_are_flipped_along(self):
        chance = random.Random(34)
        for box in sample_boxes(rounds=1, seed=34):
            for switches in some_sets(box[0], chance):
                flipped = flip_switches(box, switches)
                for seen in some_sets(box[0], chance):
                    wanted = wanted_flipped((box[0], patterns_of(box, seen)), switches & seen)
                    self.same(patterns_of(flipped, seen), wanted[1])

    def test_edges(self):
        self.same(flip_switches((0, ()), 0), (0, ()))
        self.same(flip_switches((0, (0,)), 0), (0, (0,)))
        self.same(flip_switches((6, ()), 63), (6, ()))
        self.same(flip_switches((6, (0,)), 63), (6, (63,)))
        self.same(flip_switches((2, (0, 1, 3)), 0), (2, (0, 1, 3)))
        self.same(flip_switches((2, (0, 1, 3)), 3), (2, (0, 2, 3)))


def wanted_renamed(box, order):
    return box_of_digits(box[0], [[word[old] for old in order] for word in digits_in(box)])


class RenameTest(StrictCase):
    def test_orders(self):
        chance = random.Random(35)
        for box in sample_boxes(seed=35):
            orders = itertools.permutations(range(box[0])) if box[0] < 4 else orders_of(box[0], 6, chance)
            for order in orders:
                self.check(rename_switches, (box, order), wanted_renamed(box, order))

    def test_same_order_and_inverse_order(self):
        chance = random.Random(36)
        for box in sample_boxes(rounds=1, seed=36):
            self.same(rename_switches(box, tuple(range(box[0]))), box)
            for order in orders_of(box[0], 4, chance):
                inverse = tuple(order.index(k) for k in range(box[0]))
                self.same(rename_switches(rename_switches(box, order), inverse), box)

    def test_two_renamings_are_one(self):
        chance = random.Random(37)
        for box in sample_boxes(rounds=1, seed=37):
            for first in orders_of(box[0], 3, chance):
                for second in orders_of(box[0], 3, chance):
                    twice = rename_switches(rename_switches(box, first), second)
                    self.same(twice, rename_switches(box, tuple(first[k] for k in second)))

    def test_sets_are_renamed_along(self):
        chance = random.Random(38)
        for box in sample_boxes(rounds=1, seed=38):
            for order in orders_of(box[0], 2, chance):
                renamed = rename_switches(box, order)
                for find in (shown_sets, solid_sets):
                    self.same(find(renamed), rename_switches((box[0], find(box)), order)[1])

    def test_edges(self):
        self.same(rename_switches((0, ()), ()), (0, ()))
        self.same(rename_switches((0, (0,)), ()), (0, (0,)))
        self.same(rename_switches((1, (1,)), (0,)), (1, (1,)))
        self.same(rename_switches((3, (2,)), (1, 2, 0)), (3, (1,)))
        self.same(rename_switches((3, (1, 2)), (1, 2, 0)), (3, (1, 4)))
        self.same(rename_switches((6, (1, 32)), (5, 4, 3, 2, 1, 0)), (6, (1, 32)))


class AddTest(StrictCase):
    def test_small_enough_boxes(self):
        for box in sample_boxes(seed=39):
            n = box[0]
            if n < 6:
                words = digits_in(box)
                on, off = [word + "1" for word in words], [word + "0" for word in words]
                self.check(add_fixed, (box, True), box_of_digits(n + 1, on))
                self.check(add_fixed, (box, False), box_of_digits(n + 1, off))
                self.check(add_free, (box,), box_of_digits(n + 1, on + off))

    def test_too_many_switches(self):
        for box in boxes_of(6, 3, 40):
            for on in (False, True):
                self.raises(TooManySwitches, {"bound": 6}, add_fixed, box, on)
            self.raises(TooManySwitches, {"bound": 6}, add_free, box)
        for box in boxes_of(5, 3, 40):
            for added in (add_fixed(box, False), add_fixed(box, True), add_free(box)):
                self.assertEqual((added[0], box_error(added)), (6, None))

    def test_edges(self):
        self.same(add_fixed((0, ()), True), (1, ()))
        self.same(add_fixed((0, (0,)), True), (1, (1,)))
        self.same(add_fixed((0, (0,)), False), (1, (0,)))
        self.same(add_free((0, (0,))), (1, (0, 1)))
        self.same(add_free((5, ())), (6, ()))
        self.same(add_free((5, tuple(range(32)))), (6, tuple(range(64))))

    def test_what_the_error_is(self):
        with self.assertRaises(BoxError) as caught:
            add_free((6, ()))
        self.assertIsInstance(caught.exception, ValueError)
        self.assertNotIsInstance(caught.exception, LookupError)


def pair_boxes(total, seed):
    """Pairs of boxes of together at most so many switches, perhaps empty, smooth or not."""
    chance = random.Random(seed)
    for n in range(total + 1):
        for more in range(total + 1 - n):
            first, second = list(boxes_of(n, 1, seed)), list(boxes_of(more, 1, seed + 1))
            first += list(grown_boxes(n, 2 ** n, seed))
            second += list(grown_boxes(more, 2 ** more, seed))
            pairs = list(itertools.product(first, second))
            yield from chance.sample(pairs, 20)


class ProductTest(StrictCase):
    def test_all_pairs(self):
        for first, second in pair_boxes(6, 41):
            pairs = itertools.product(digits_in(first), digits_in(second))
            wanted = box_of_digits(first[0] + second[0], [one + other for one, other in pairs])
            self.check(product_box, (first, second), wanted)

    def test_too_many_switches(self):
        for n in range(7):
            for more in range(7):
                for first, second in itertools.product(boxes_of(n, 0, 42), boxes_of(more, 0, 42)):
                    if n + more > 6:
                        self.raises(TooManySwitches, {"bound": 6}, product_box, first, second)
                    else:
                        product = product_box(first, second)
                        self.assertEqual((product[0], box_error(product)), (n + more, None))

    def test_sets_of_products(self):
        for first, second in pair_boxes(5, 43):
            product = product_box(first, second)
            for find in (shown_sets, solid_sets):
                self.same(find(product), product_box((first[0], find(first)), (second[0], find(second)))[1])

    def test_counts_multiply(self):
        for first, second in pair_boxes(5, 44):
            pairs = zip(set_counts(first), set_counts(second))
            self.same(set_counts(product_box(first, second)), tuple(one * other for one, other in pairs))

    def test_smooth_products(self):
        seen = set()
        for first, second in pair_boxes(5, 45):
            product = product_box(first, second)
            if first[1] and second[1]:
                both = (wanted_rough(first) is None, wanted_rough(second) is None)
                self.same(is_smooth(product), all(both))
                self.same(wanted_rough(product) is None, all(both))
                seen.add(both)
            else:
                self.same(product, (first[0] + second[0], ()))
        self.assertEqual(len(seen), 4)

    def test_one_card_without_switches(self):
        for box in sample_boxes(rounds=1, seed=46):
            self.same(product_box(box, (0, (0,))), box)
            self.same(product_box((0, (0,)), box), box)
            self.same(product_box(box, (0, ())), (box[0], ()))
            self.same(product_box((0, ()), box), (box[0], ()))

    def test_three_boxes(self):
        chance = random.Random(47)
        for first, second in pair_boxes(6, 47):
            third = chance.choice(list(boxes_of(6 - first[0] - second[0], 1, 47)))
            left = product_box(product_box(first, second), third)
            self.same(product_box(first, product_box(second, third)), left)


class SmoothChangesTest(StrictCase):
    def test_smooth_boxes_stay_smooth(self):
        chance = random.Random(48)
        for box in smooth_boxes():
            n = box[0]
            changed = [flip_switches(box, chance.randrange(2 ** n)), opposite_box(box)]
            changed += [rename_switches(box, order) for order in orders_of(n, 1, chance)]
            if n < 6:
                changed += [add_fixed(box, False), add_fixed(box, True), add_free(box)]
            for one in changed:
                self.same(is_smooth(one), True)
                self.assertEqual(len(one[1]), len(shown_sets(one)))

    def test_rough_boxes_stay_rough(self):
        chance = random.Random(49)
        for box in many_boxes():
            if wanted_rough(box) is not None:
                self.same(is_smooth(flip_switches(box, chance.randrange(2 ** box[0]))), False)
                self.same(is_smooth(rename_switches(box, tuple(range(box[0]))[::-1])), False)

    def test_closed_boxes_flipped(self):
        chance = random.Random(50)
        for n in range(1, 7):
            for turn in range(6):
                box = closed_box(n, [chance.randrange(2 ** n) for card in range(3)])
                flipped = flip_switches(box, chance.randrange(2 ** n))
                self.same(is_smooth(flipped), True)
                self.same(shown_sets(flipped), box[1])


class ManySmallBoxesTest(StrictCase):
    def test_products_of_all_small_boxes(self):
        small = [box for n in range(3) for box in every_box(n)]
        for first, second in itertools.product(small, small):
            product = product_box(first, second)
            self.assertEqual(len(product[1]), len(first[1]) * len(second[1]))
            for at, card in enumerate(product[1]):
                one, other = card % 2 ** first[0], card // 2 ** first[0]
                self.assertIn(one, first[1])
                self.assertIn(other, second[1])
                self.assertTrue(at == 0 or card > product[1][at - 1])


if __name__ == "__main__":
    unittest.main()
