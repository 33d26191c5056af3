"""All boxes of at most two switches: what point 2 promises, found by listing all patterns and all cubes."""

import itertools
import random
import unittest

from tests.samples import StrictCase, size_in_digits

from cardboxes.boxes import is_box, opposite_box
from cardboxes.cubes import all_cubes, cube_cards, cube_counts, solid_sets
from cardboxes.decks import Deck
from cardboxes.parts import drop_switch, edge_box, hold_switch
from cardboxes.paths import component_cards, path_holds, straight_path
from cardboxes.pressing import is_closed, press_all
from cardboxes.shown import shown_sets
from cardboxes.smooth import is_smooth, set_counts
from cardboxes.texts import box_text, parse_box


def all_boxes():
    """The twenty-two boxes of zero, one and two switches, in any order."""
    found = []
    for n in range(3):
        for many in range(2 ** n + 1):
            found += [(n, cards) for cards in itertools.combinations(range(2 ** n), many)]
    return random.Random(171).sample(found, len(found))


def parts_of(switches):
    return [part for part in (0, 1, 2, 3) if part | switches == switches]


def listed_shown(box):
    n, cards = box
    return [one for one in range(2 ** n) if {card & one for card in cards} == set(parts_of(one))]


def listed_cubes(box):
    n, cards = box
    sets = range(2 ** n)
    cubes = [(base, directions) for base in sets for directions in sets if base & directions == 0]
    return [cube for cube in cubes if all(cube[0] + part in cards for part in parts_of(cube[1]))]


class SmallBoxesTest(StrictCase):
    def test_how_many(self):
        self.assertEqual(len(set(all_boxes())), 22)
        for box in all_boxes():
            self.same(is_box(box), True)

    def test_listed_sets(self):
        for box in all_boxes():
            shown, cubes = listed_shown(box), listed_cubes(box)
            solid = sorted({directions for base, directions in cubes})
            self.same(shown_sets(box), tuple(shown))
            self.same(solid_sets(box), tuple(solid))
            self.same(all_cubes(box), tuple(cubes))
            for cube in cubes:
                self.same(cube_cards(cube), tuple(cube[0] + part for part in parts_of(cube[1])))
            self.same(set_counts(box), (len(solid), len(box[1]), len(shown)))

    def test_statements_that_agree(self):
        smooth = [box for box in all_boxes() if is_smooth(box)]
        self.assertEqual(len(smooth), 20)
        for box in all_boxes():
            solid, many, shown = set_counts(box)
            wanted = listed_shown(box) == sorted({directions for base, directions in listed_cubes(box)})
            self.same([is_smooth(box), many == shown, many == solid, is_smooth(opposite_box(box))], [wanted] * 4)

    def test_pressed(self):
        for box in all_boxes():
            found = [press_all(box, order) for order in itertools.permutations(range(box[0]))]
            for pressed in found:
                self.same(is_closed(pressed), True)
                self.assertEqual(len(pressed[1]), len(box[1]))
                self.assertLessEqual(set(solid_sets(box)), set(pressed[1]))
                self.assertLessEqual(set(pressed[1]), set(shown_sets(box)))
            self.same(len(set(found)) == 1, is_smooth(box))

    def test_cubes_alternate_to_one(self):
        for box in all_boxes():
            if box[1] and is_smooth(box):
                self.assertEqual(sum(many * (-1) ** size for size, many in enumerate(cube_counts(box))), 1)

    def test_straight_paths(self):
        for box in all_boxes():
            for first, second in itertools.product(box[1], repeat=2):
                path = straight_path(box, first, second)
                self.same(path_holds(box, first, second, path), path is not None)
                if is_smooth(box):
                    self.assertEqual(len(path), size_in_digits(first ^ second) + 1)
            if is_smooth(box):
                self.same(component_cards(box), (box[1],) if box[1] else ())

    def test_parts_of_smooth_boxes(self):
        for box in all_boxes():
            for switch in range(box[0]):
                parts = [hold_switch(box, switch, False), hold_switch(box, switch, True)]
                parts += [drop_switch(box, switch), edge_box(box, switch)]
                self.assertTrue(all(is_box(part) for part in parts))
                if is_smooth(box):
                    self.assertTrue(all(is_smooth(part) for part in parts))

    def test_decks_and_texts(self):
        for box in all_boxes():
            self.same(parse_box(box_text(box)), box)
            self.same(Deck(box).box(), box)


if __name__ == "__main__":
    unittest.main()
