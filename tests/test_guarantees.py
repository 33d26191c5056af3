"""Point 2, (a) to (c), (h) and (j) for sets, and how the functions of points 5, 6 and 7 go together."""

import itertools
import random
import unittest

from tests.samples import (
    NOT_NUMBERS,
    PATTERNS,
    StrictCase,
    changed_certificate,
    largest_boxes,
    many_boxes,
    other_cards,
    sample_boxes,
    size_in_digits,
    smooth_boxes,
    wanted_cards,
    wanted_missing,
    with_card,
    without_card,
)

from cardboxes.boxes import opposite_box
from cardboxes.cubes import all_cubes, bases_of, cube_counts, is_solid, solid_certificate, solid_holds, solid_sets
from cardboxes.shown import is_shown, patterns_of, shown_certificate, shown_holds, shown_sets
from cardboxes.smooth import card_bound, is_smooth, rough_set, set_counts, shown_size


def others(box, switches):
    """The set of all other switches."""
    return 2 ** box[0] - 1 - switches


class OppositeTest(StrictCase):
    def test_shown_and_solid(self):
        for box in sample_boxes(seed=21):
            opposite = opposite_box(box)
            for switches in range(2 ** box[0]):
                rest = others(box, switches)
                self.same(is_shown(box, switches), not is_solid(opposite, rest))
                self.same(is_solid(box, switches), not is_shown(opposite, rest))

    def test_numbers_add_up(self):
        for box in many_boxes():
            opposite = opposite_box(box)
            self.assertEqual(len(shown_sets(box)) + len(solid_sets(opposite)), 2 ** box[0])
            rest = {others(box, switches) for switches in solid_sets(opposite)}
            self.assertEqual(set(shown_sets(box)), set(range(2 ** box[0])) - rest)

    def test_missing_patterns_are_bases(self):
        for box in sample_boxes(seed=22):
            opposite = opposite_box(box)
            for switches in range(2 ** box[0]):
                rest = others(box, switches)
                shown = patterns_of(box, switches)
                missing = tuple(one for one in sorted(set(PATTERNS[box[0]][switches])) if one not in shown)
                self.same(bases_of(opposite, rest), missing)
                for pattern in range(2 ** box[0]):
                    value, base = ("missing", pattern), ("solid", pattern)
                    self.same(shown_holds(box, switches, value), pattern in missing)
                    self.same(solid_holds(opposite, rest, base), pattern in missing)

    def test_own_certificates_exchanged(self):
        words = {"shown": "broken", "missing": "solid"}
        for box in sample_boxes(seed=23):
            opposite = opposite_box(box)
            for switches in range(2 ** box[0]):
                rest = others(box, switches)
                word, proof = shown_certificate(box, switches)
                self.same(solid_certificate(opposite, rest), (words[word], proof))
                self.same(solid_holds(opposite, rest, (words[word], proof)), True)
                word, proof = solid_certificate(opposite, rest)
                exchanged = ("shown" if word == "broken" else "missing", proof)
                self.same(shown_holds(box, switches, exchanged), True)

    def test_other_certificates_exchanged(self):
        chance = random.Random(24)
        words = {"shown": "broken", "missing": "solid", "broken": "shown", "solid": "missing"}
        for box in sample_boxes(rounds=2, seed=24):
            opposite = opposite_box(box)
            for switches in range(2 ** box[0]):
                value = changed_certificate(shown_certificate(box, switches), box[0], chance)
                if type(value) is tuple and len(value) == 2 and type(value[0]) is str:
                    exchanged = (words.get(value[0], value[0]), value[1])
                    accepted = shown_holds(box, switches, value)
                    self.same(solid_holds(opposite, others(box, switches), exchanged), accepted)


class AcceptedIsCorrectTest(StrictCase):
    def test_shown_holds(self):
        chance = random.Random(25)
        for box in sample_boxes(rounds=2, seed=25):
            everything = (box[0], tuple(range(2 ** box[0])))
            for switches in range(2 ** box[0]):
                cards = tuple(chance.choice(having) for having in wanted_cards(everything, switches).values())
                patterns = sorted(set(PATTERNS[box[0]][switches]))
                missing = wanted_missing(box, switches)
                if shown_holds(box, switches, ("shown", cards)):
                    self.assertEqual(missing, [])
                accepted = [one for one in patterns if shown_holds(box, switches, ("missing", one))]
                self.assertEqual(accepted, missing)

    def test_of_each_set_one_word(self):
        chance = random.Random(26)
        for box in sample_boxes(rounds=2, seed=26):
            for switches in range(2 ** box[0]):
                for make, holds in ((shown_certificate, shown_holds), (solid_certificate, solid_holds)):
                    value = make(box, switches)
                    self.same(holds(box, switches, value), True)
                    for turn in range(6):
                        changed = changed_certificate(value, box[0], chance)
                        if holds(box, switches, changed):
                            self.assertEqual(changed[0], value[0])
                    pairs = {"shown": "missing", "missing": "shown", "solid": "broken", "broken": "solid"}
                    for proof in (*range(2 ** box[0]), value[1], *NOT_NUMBERS):
                        self.same(holds(box, switches, (pairs[value[0]], proof)), False)


class CountsTest(StrictCase):
    def test_cards_between_solid_and_shown_sets(self):
        for box in many_boxes():
            n, cards = box
            solid, shown = solid_sets(box), shown_sets(box)
            self.assertLessEqual(len(solid), len(cards))
            self.assertLessEqual(len(cards), len(shown))
            self.assertLessEqual(set(solid), set(shown))
            self.assertEqual(len(shown) == 2 ** n, len(cards) == 2 ** n)
            self.same(set_counts(box), (len(solid), len(cards), len(shown)))

    def test_subsets_of_solid_sets(self):
        for box in many_boxes():
            solid = set(solid_sets(box))
            for switches in solid:
                self.assertLessEqual(set(PATTERNS[box[0]][switches]), solid)
                self.same(is_shown(box, switches), True)

    def test_statements_that_agree(self):
        for box in many_boxes():
            smooth = is_smooth(box)
            solid, shown = solid_sets(box), shown_sets(box)
            self.same(len(box[1]) == len(shown), smooth)
            self.same(len(box[1]) == len(solid), smooth)
            self.same(shown == solid, smooth)
            self.same(is_smooth(opposite_box(box)), smooth)
            self.same(rough_set(box) is None, smooth)

    def test_cards_one_by_one(self):
        chance = random.Random(27)
        for n in range(7):
            for turn in range(8 if n < 5 else 2):
                self.fill(n, chance)

    def fill(self, n, chance):
        """Add all cards, and look at the shown sets before and after each."""
        box = (n, ())
        shown = shown_sets(box)
        for card in chance.sample(range(2 ** n), 2 ** n):
            missing = {switches: wanted_missing(box, switches) for switches in range(2 ** n)}
            box = with_card(box, card)
            became = [switches for switches in missing if missing[switches] == [PATTERNS[n][switches][card]]]
            wanted = tuple(sorted([*shown, *became]))
            shown = shown_sets(box)
            self.same(shown, wanted)
            self.assertGreaterEqual(len(shown), len(box[1]))
            self.assertEqual(2 ** n - 1 in shown, len(box[1]) == 2 ** n)


class LargestTest(StrictCase):
    def judge(self, box):
        n, cards = box
        size = shown_size(box)
        self.assertLessEqual(len(cards), card_bound(n, size))
        if len(cards) == card_bound(n, size):
            self.same(is_smooth(box), True)
            wanted = tuple(switches for switches in range(2 ** n) if size_in_digits(switches) <= size)
            self.same(shown_sets(box), wanted)
            for card in other_cards(box):
                self.same(shown_size(with_card(box, card)), size + 1)

    def test_many_boxes(self):
        for box in many_boxes():
            if box[1]:
                self.judge(box)

    def test_largest_boxes(self):
        for n in range(6):
            for size, box in largest_boxes(n, 2):
                self.same((shown_size(box), card_bound(n, size)), (size, len(box[1])))
                self.judge(box)


class CubesOfSmoothBoxesTest(StrictCase):
    def test_one_more_of_even_size(self):
        for box in smooth_boxes():
            counts = cube_counts(box)
            if box[1]:
                self.assertEqual(sum(counts[0::2]), sum(counts[1::2]) + 1)

    def test_counts_of_solid_sets(self):
        for box in smooth_boxes():
            counts = cube_counts(box)
            directions = {cube[1] for cube in all_cubes(box)}
            self.assertEqual(directions, set(solid_sets(box)))
            sizes = [size_in_digits(switches) for switches in solid_sets(box)]
            for size, many in enumerate(counts):
                self.assertGreaterEqual(many, sizes.count(size))

    def test_cards_and_pairs(self):
        for box in many_boxes():
            counts = cube_counts(box)
            self.assertEqual(counts[0], len(box[1]))
            if box[0] > 0:
                pairs = itertools.combinations(box[1], 2)
                near = [pair for pair in pairs if size_in_digits(pair[0] ^ pair[1]) == 1]
                self.assertEqual(counts[1], len(near))


class OneCardTest(StrictCase):
    def changed_sets(self, small, large):
        """Of two boxes that differ in one card, what is shown and what is solid only in the larger one."""
        shown = set(shown_sets(large)) - set(shown_sets(small))
        solid = set(solid_sets(large)) - set(solid_sets(small))
        self.assertLessEqual(set(shown_sets(small)), set(shown_sets(large)))
        self.assertLessEqual(set(solid_sets(small)), set(solid_sets(large)))
        return shown, solid

    def picked(self, cards, box, chance):
        """All cards of a small box, some of a large one."""
        return cards if box[0] < 4 else chance.sample(cards, min(len(cards), 3))

    def test_sets_stay(self):
        chance = random.Random(28)
        for box in many_boxes():
            for card in self.picked(other_cards(box), box, chance):
                self.changed_sets(box, with_card(box, card))

    def test_one_card_more(self):
        chance = random.Random(29)
        stayed = []
        for box in smooth_boxes():
            for card in self.picked(other_cards(box), box, chance):
                grown = with_card(box, card)
                shown, solid = self.changed_sets(box, grown)
                stayed.append(is_smooth(grown))
                self.same(is_smooth(grown), len(shown) == 1)
                if is_smooth(grown):
                    self.assertEqual(solid, shown)
        self.assertEqual(set(stayed), {False, True})

    def test_one_card_less(self):
        chance = random.Random(30)
        stayed = []
        for box in smooth_boxes():
            for card in self.picked(list(box[1]), box, chance):
                left = without_card(box, card)
                shown, solid = self.changed_sets(left, box)
                stayed.append(is_smooth(left))
                self.same(is_smooth(left), len(solid) == 1)
                if is_smooth(left):
                    self.assertEqual(shown, solid)
        self.assertEqual(set(stayed), {False, True})


if __name__ == "__main__":
    unittest.main()
