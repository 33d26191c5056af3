"""Point 6: cubes in boxes, solid sets, and their certificates."""

import itertools
import random
import unittest

from tests.samples import (
    CUBES,
    OTHER_VALUES,
    StrictCase,
    boxes_of,
    changed_certificate,
    every_box,
    sample_boxes,
    wanted_bases,
    wanted_certificate,
    wanted_cubes,
    wanted_holds,
)

from cardboxes.cubes import (
    all_cubes,
    bases_of,
    cube_cards,
    cube_counts,
    is_solid,
    solid_certificate,
    solid_holds,
    solid_sets,
)


class CubeCardsTest(StrictCase):
    def test_all_cubes(self):
        for table in CUBES:
            for directions, bases in table.items():
                for base, cards in bases.items():
                    self.check(cube_cards, ((base, directions),), tuple(cards))
                    self.assertEqual(len(cards), 2 ** bin(directions).count("1"))

    def test_edges(self):
        self.same(cube_cards((0, 0)), (0,))
        self.same(cube_cards((63, 0)), (63,))
        self.same(cube_cards((0, 63)), tuple(range(64)))
        self.same(cube_cards((2, 5)), (2, 3, 6, 7))


class SolidSetsTest(StrictCase):
    def test_each_set(self):
        for box in sample_boxes():
            for switches in range(2 ** box[0]):
                bases = wanted_bases(box, switches)
                self.check(bases_of, (box, switches), bases)
                self.check(is_solid, (box, switches), len(bases) > 0)
                self.check(solid_certificate, (box, switches), wanted_certificate(box, switches))

    def test_solid_sets(self):
        for box in sample_boxes() + list(every_box(3)):
            n, cards = box
            wanted = tuple(switches for switches in range(2 ** n) if wanted_bases(box, switches))
            self.check(solid_sets, (box,), wanted)
            self.assertLessEqual(len(wanted), len(cards))

    def test_equal_calls_after_another_box(self):
        for n in range(5):
            first, second = (n, tuple(range(2 ** n))), (n, (0,))
            results = [solid_sets(first), solid_sets(second), solid_sets(first), solid_sets(second)]
            self.same(results, [tuple(range(2 ** n)), (0,)] * 2)

    def test_empty_box_and_empty_set(self):
        for n in range(7):
            self.same(solid_sets((n, ())), ())
            for switches in range(2 ** n):
                self.same(is_solid((n, ()), switches), False)
                bases = sorted(CUBES[n][switches])
                self.same(solid_certificate((n, ()), switches), ("broken", tuple(bases)))
            for card in range(2 ** n):
                self.same(is_solid((n, (card,)), 0), True)
                self.same(solid_sets((n, (card,))), (0,))
                self.same(solid_certificate((n, (card,)), 0), ("solid", card))

    def test_smallest_base_and_smallest_missing_card(self):
        self.same(solid_certificate((3, (2, 3, 4, 5, 6, 7)), 1), ("solid", 2))
        self.same(solid_certificate((2, (0,)), 3), ("broken", (1,)))
        self.same(solid_certificate((3, (0, 1, 2, 5, 6, 7)), 3), ("broken", (3, 4)))


class AllCubesTest(StrictCase):
    def test_cubes_and_counts(self):
        for box in sample_boxes(seed=2) + list(every_box(3)):
            cubes = wanted_cubes(box)
            counts = [0] * (box[0] + 1)
            for base, directions in cubes:
                counts[bin(directions).count("1")] += 1
            self.check(all_cubes, (box,), cubes)
            self.check(cube_counts, (box,), tuple(counts))
            self.assertEqual(cube_counts(box)[0], len(box[1]))

    def test_box_of_all_cards(self):
        wanted = [(1,), (2, 1), (4, 4, 1), (8, 12, 6, 1)]
        for n in range(7):
            box = (n, tuple(range(2 ** n)))
            self.assertEqual(len(all_cubes(box)), 3 ** n)
            self.assertEqual(sum(cube_counts(box)), 3 ** n)
            if n < 4:
                self.same(cube_counts(box), wanted[n])

    def test_empty_box(self):
        for n in range(7):
            self.same(all_cubes((n, ())), ())
            self.same(cube_counts((n, ())), (0,) * (n + 1))


class SolidHoldsTest(StrictCase):
    def judge(self, box, switches, value):
        self.check(solid_holds, (box, switches, value), wanted_holds(box, switches, value))

    def test_own_certificates(self):
        for box in sample_boxes(seed=3):
            for switches in range(2 ** box[0]):
                value = solid_certificate(box, switches)
                self.check(solid_holds, (box, switches, value), True)

    def test_each_base(self):
        for box in sample_boxes(rounds=1, seed=4):
            if box[0] < 6:
                for switches in range(2 ** box[0]):
                    for base in range(-1, 2 ** box[0] + 1):
                        self.judge(box, switches, ("solid", base))

    def test_all_tuples_of_missing_cards(self):
        for n in range(3):
            for box in every_box(n):
                for switches in range(2 ** n):
                    for many in range(2 ** n + 1):
                        for proof in itertools.product(range(2 ** n), repeat=many):
                            wanted = wanted_holds(box, switches, ("broken", proof))
                            self.same(solid_holds(box, switches, ("broken", proof)), wanted)

    def test_other_missing_cards(self):
        chance = random.Random(5)
        for n in range(3, 7):
            for box in boxes_of(n, 2, 5):
                for switches in range(2 ** n):
                    table = CUBES[n][switches]
                    proof = tuple(chance.choice(table[base]) for base in sorted(table))
                    self.judge(box, switches, ("broken", proof))
                    missing = [sorted(set(table[base]) - set(box[1])) for base in sorted(table)]
                    if all(missing):
                        proof = tuple(chance.choice(cards) for cards in missing)
                        self.check(solid_holds, (box, switches, ("broken", proof)), True)

    def test_changed_certificates(self):
        chance = random.Random(6)
        for box in sample_boxes(rounds=2, seed=6):
            for switches in range(2 ** box[0]):
                for changes in (1, 2, 1, 2):
                    value = solid_certificate(box, switches)
                    for step in range(changes):
                        value = changed_certificate(value, box[0], chance)
                    self.judge(box, switches, value)

    def test_other_values(self):
        boxes = [(0, ()), (0, (0,)), (1, (0, 1)), (2, (0, 1, 3)), (3, (1, 2, 3, 4, 5, 6))]
        for box in boxes:
            for switches in range(2 ** box[0]):
                for value in OTHER_VALUES:
                    self.judge(box, switches, value)
                    self.judge(box, switches, ("solid", value))
                    self.judge(box, switches, ("broken", value))
                    self.judge(box, switches, ("broken", (value,)))
                    self.judge(box, switches, (value, 0))

    def test_a_bool_is_not_a_number(self):
        self.same(solid_holds((1, (0, 1)), 0, ("solid", 1)), True)
        self.same(solid_holds((1, (0, 1)), 0, ("solid", True)), False)
        self.same(solid_holds((1, (0, 1)), 1, ("solid", 0)), True)
        self.same(solid_holds((1, (0, 1)), 1, ("solid", False)), False)
        self.same(solid_holds((1, (0,)), 1, ("broken", (1,))), True)
        self.same(solid_holds((1, (0,)), 1, ("broken", (True,))), False)
        self.same(solid_holds((1, ()), 0, ("broken", (0, 1))), True)
        self.same(solid_holds((1, ()), 0, ("broken", (False, 1))), False)

    def test_cards_of_other_cubes(self):
        box = (2, ())
        self.same(solid_holds(box, 1, ("broken", (1, 2))), True)
        self.same(solid_holds(box, 1, ("broken", (2, 1))), False)
        self.same(solid_holds(box, 1, ("broken", (0, 0))), False)
        self.same(solid_holds(box, 1, ("broken", (0, 2, 2))), False)
        self.same(solid_holds(box, 3, ("broken", (4,))), False)
        self.same(solid_holds(box, 3, ("broken", (-1,))), False)


if __name__ == "__main__":
    unittest.main()
