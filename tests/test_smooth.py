"""Point 7: smooth boxes, rough sets, counts and bounds."""

import itertools
import unittest

from tests.samples import (
    StrictCase,
    few_changes_box,
    many_boxes,
    size_in_digits,
    smooth_boxes,
    wanted_rough,
    wanted_shown,
    wanted_solid,
)

from cardboxes.smooth import card_bound, is_smooth, rough_set, set_counts, shown_size


class SmoothTest(StrictCase):
    def test_many_boxes(self):
        for box in many_boxes():
            shown, solid = wanted_shown(box), wanted_solid(box)
            rough = wanted_rough(box)
            self.check(is_smooth, (box,), set(shown) <= set(solid))
            self.check(rough_set, (box,), rough)
            self.check(set_counts, (box,), (len(solid), len(box[1]), len(shown)))
            self.check(shown_size, (box,), max([size_in_digits(one) for one in shown], default=None))

    def test_both_kinds_are_among_the_boxes(self):
        for n in range(2, 7):
            boxes = [box for box in many_boxes() if box[0] == n]
            rough = [wanted_rough(box) for box in boxes]
            self.assertGreater(rough.count(None), 1)
            self.assertGreater(len(rough) - rough.count(None), 1)
        for box in smooth_boxes():
            self.assertIsNone(wanted_rough(box))

    def test_empty_box_and_box_of_all_cards(self):
        for n in range(7):
            self.same(is_smooth((n, ())), True)
            self.same(rough_set((n, ())), None)
            self.same(set_counts((n, ())), (0, 0, 0))
            self.same(shown_size((n, ())), None)
            box = (n, tuple(range(2 ** n)))
            self.same(is_smooth(box), True)
            self.same(rough_set(box), None)
            self.same(set_counts(box), (2 ** n, 2 ** n, 2 ** n))
            self.same(shown_size(box), n)

    def test_one_card(self):
        for n in range(7):
            for card in range(2 ** n):
                self.same(is_smooth((n, (card,))), True)
                self.same(set_counts((n, (card,))), (1, 1, 1))
                self.same(shown_size((n, (card,))), 0)

    def test_two_cards(self):
        for first, second in itertools.combinations(range(64), 2):
            switches = first ^ second
            smooth = size_in_digits(switches) == 1
            self.same(is_smooth((6, (first, second))), smooth)
            lowest = min(2 ** k for k in range(6) if switches // 2 ** k % 2)
            self.same(rough_set((6, (first, second))), None if smooth else lowest)

    def test_the_smallest_rough_set_has_the_smallest_number(self):
        # The rough sets are 3 (two switches) and 4 (one switch).
        box = (3, (0, 1, 2, 7))
        self.assertEqual(sorted(set(wanted_shown(box)) - set(wanted_solid(box))), [3, 4])
        self.same(rough_set(box), 3)

    def test_equal_calls_after_another_box(self):
        smooth, rough = (2, (0, 1, 3)), (2, (0, 3))
        self.same([rough_set(box) for box in (rough, smooth, rough, smooth)], [1, None, 1, None])
        self.same([is_smooth(box) for box in (rough, smooth, rough, smooth)], [False, True, False, True])
        self.same([shown_size(box) for box in (rough, (2, ()), rough)], [1, None, 1])


class CardBoundTest(StrictCase):
    def test_all_sizes(self):
        for n in range(7):
            for size in range(n + 1):
                sets = [part for many in range(size + 1) for part in itertools.combinations(range(n), many)]
                self.check(card_bound, (n, size), len(sets))

    def test_edges(self):
        for n in range(7):
            self.same(card_bound(n, 0), 1)
            self.same(card_bound(n, n), 2 ** n)
        self.same(card_bound(6, 3), 42)
        self.same(card_bound(6, 5), 63)

    def test_beyond_the_bound(self):
        self.same(card_bound(7, 1), 8)
        self.same(card_bound(2, 3), 4)

    def test_boxes_that_reach_it(self):
        for n in range(7):
            for size in range(n + 1):
                box = few_changes_box(n, size)
                self.same(shown_size(box), size)
                self.same(card_bound(n, size), len(box[1]))


if __name__ == "__main__":
    unittest.main()
