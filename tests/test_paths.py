"""Point 10, and (e) and (j) of point 2: paths between cards, and components."""

import itertools
import random
import unittest

from tests.samples import (
    CUBES,
    NOT_NUMBERS,
    OTHER_VALUES,
    StrictCase,
    boxes_of,
    closed_box,
    digits_of,
    every_box,
    grown_boxes,
    largest_boxes,
    many_boxes,
    number_of,
    size_in_digits,
    smooth_boxes,
    wanted_flipped,
    wanted_rough,
    without_card,
)

from cardboxes.paths import component_cards, path_holds, steps_between, straight_path

RING = (3, (1, 2, 3, 4, 5, 6))


def neighbours(box, card):
    """The cards of the box that differ from this one in one letter."""
    n, cards = box
    word = digits_of(n, card)
    near = [word[:k] + ("0" if word[k] == "1" else "1") + word[k + 1:] for k in range(n)]
    return [other for other in sorted(number_of(one) for one in near) if other in cards]


def wanted_steps(box, first):
    """The least number of steps from the first card to each card that is reached, by a search step by step."""
    steps, row = {first: 0}, [first]
    while row:
        card = row.pop(0)
        for other in neighbours(box, card):
            if other not in steps:
                steps[other] = steps[card] + 1
                row.append(other)
    return steps


def wanted_groups(box):
    groups, left = [], list(box[1])
    while left:
        groups.append(tuple(sorted(wanted_steps(box, left[0]))))
        left = [card for card in left if card not in groups[-1]]
    return tuple(groups)


def wanted_path(box, first, second, value):
    """Whether the value is a straight path, by the words of the document."""
    if type(value) is not tuple or not value or not all(type(card) is int for card in value):
        return False
    if not set(value) <= set(box[1]) or (value[0], value[-1]) != (first, second):
        return False
    if any(after not in neighbours(box, card) for card, after in zip(value, value[1:])):
        return False
    return len(value) - 1 == size_in_digits(first ^ second)


def all_walks(first, second):
    """The cards on the way if the switches that differ are flipped in each order."""
    differing = [2 ** k for k in range(6) if (first ^ second) // 2 ** k % 2]
    for order in itertools.permutations(differing):
        yield tuple(itertools.accumulate(order, lambda card, switch: card ^ switch, initial=first))


def pairs_of(box, many, chance):
    """Pairs of cards of the box, all if it is small."""
    pairs = list(itertools.product(box[1], repeat=2))
    return pairs if len(pairs) <= many else chance.sample(pairs, many)


class StepsTest(StrictCase):
    def test_search(self):
        chance = random.Random(141)
        seen = set()
        for box in many_boxes():
            for first, second in pairs_of(box, 16, chance):
                wanted = wanted_steps(box, first).get(second)
                self.check(steps_between, (box, first, second), wanted)
                self.same(steps_between(box, second, first), wanted)
                seen.add(wanted is None)
            for card in box[1][:3]:
                self.same(steps_between(box, card, card), 0)
        self.assertEqual(seen, {False, True})

    def test_long_ways(self):
        # The cards lie on one line, so the way is longer than the number of differences.
        line = (4, tuple(sorted((0, 1, 3, 7, 6, 14, 12, 8))))
        self.same(steps_between(line, 0, 8), 1)
        line = (4, tuple(sorted((0, 1, 3, 7, 6, 14, 12))))
        self.same([steps_between(line, 0, card) for card in (0, 1, 3, 7, 6, 14, 12)], [0, 1, 2, 3, 4, 5, 6])
        self.same(straight_path(line, 0, 12), None)
        self.same(steps_between(RING, 1, 6), 3)
        self.same(steps_between(RING, 1, 4), 2)

    def test_edges(self):
        self.same(steps_between((0, (0,)), 0, 0), 0)
        self.same(steps_between((1, (0, 1)), 0, 1), 1)
        self.same(steps_between((6, (0, 63)), 0, 63), None)
        self.same(steps_between((6, tuple(range(64))), 0, 63), 6)

    def test_triangles_and_parity(self):
        chance = random.Random(142)
        for box in (box for box in many_boxes() if box[0] < 6):
            cards = box[1] if len(box[1]) <= 5 else chance.sample(box[1], 5)
            groups = component_cards(box)
            for first, second in itertools.product(cards, repeat=2):
                steps = steps_between(box, first, second)
                together = any(first in group and second in group for group in groups)
                self.assertEqual(steps is not None, together)
                apart = size_in_digits(first ^ second)
                self.assertEqual(steps == apart, straight_path(box, first, second) is not None)
                if steps is not None:
                    self.assertGreaterEqual(steps, apart)
                    self.assertEqual(steps % 2, apart % 2)
                    for third in cards:
                        ways = steps_between(box, first, third), steps_between(box, third, second)
                        self.assertTrue(None in ways or steps <= sum(ways))
                for other in neighbours(box, first):
                    self.same(steps_between(box, first, other), 1)


class StraightPathTest(StrictCase):
    def judge(self, box, first, second):
        path = straight_path(box, first, second)
        exists = any(set(walk) <= set(box[1]) for walk in all_walks(first, second))
        self.assertEqual(path is not None, exists, (box, first, second))
        if path is not None:
            self.same(wanted_path(box, first, second, path), True)
            self.same(path_holds(box, first, second, path), True)
        self.check(straight_path, (box, first, second), path)
        return exists

    def test_all_walks(self):
        chance = random.Random(143)
        seen = set()
        for box in many_boxes():
            for first, second in pairs_of(box, 8, chance):
                seen.add((size_in_digits(first ^ second), self.judge(box, first, second)))
        self.assertLessEqual({(size, exists) for size in range(2, 6) for exists in (False, True)}, seen)

    def test_one_way_among_many(self):
        chance = random.Random(144)
        for n in range(2, 7):
            for turn in range(20):
                first = chance.randrange(2 ** n)
                second = first ^ (2 ** n - 1)
                walk = chance.choice(list(itertools.islice(all_walks(first, second), 200)))
                more = chance.sample(range(2 ** n), 2 ** n // 3)
                self.same(self.judge((n, tuple(sorted({*walk, *more}))), first, second), True)
                card = chance.choice(walk[1:-1])
                self.judge(without_card((n, tuple(sorted({*walk, *more}))), card), first, second)
                self.same(self.judge((n, tuple(sorted(walk))), first, second), True)
                self.same(self.judge(without_card((n, tuple(sorted(walk))), card), first, second), False)

    def test_edges(self):
        self.same(straight_path((0, (0,)), 0, 0), (0,))
        for card in range(64):
            self.same(straight_path((6, (card,)), card, card), (card,))
        self.same(straight_path((6, (0, 63)), 0, 63), None)
        self.same(straight_path((2, (0, 1, 3)), 3, 0), (3, 1, 0))
        self.same(straight_path((1, (0, 1)), 1, 0), (1, 0))


def changed_path(path, n, chance):
    """One change of a path: a card replaced, added, left out or repeated, turned round, or no tuple any more."""
    at = chance.randrange(len(path))
    before, card, after = path[:at], path[at], path[at + 1:]
    parts = (chance.randrange(2 ** n), card + 2 ** n, card ^ 1, -1, bool(card), True, False, str(card), (card,), None)
    ways = [before + (part,) + after for part in parts]
    ways += [before + after, before + (card, card) + after, before + (chance.randrange(2 ** n),) + path[at:]]
    ways += [path[::-1], list(path), path + path[-1:], path[:1] + path, path + (path[-1] ^ 1,), path[1:], path[:-1]]
    ways += [path[::-1][:1] + path, (path,), {"path": list(path)}, (path[0], path[-1]), path + path[-2:]]
    return chance.choice(ways)


class PathHoldsTest(StrictCase):
    def judge(self, box, first, second, value):
        wanted = wanted_path(box, first, second, value)
        self.check(path_holds, (box, first, second, value), wanted)
        return wanted

    def test_walks(self):
        chance = random.Random(145)
        seen = []
        for box in many_boxes():
            for first, second in pairs_of(box, 6, chance):
                walks = list(itertools.islice(all_walks(first, second), 720))
                for walk in chance.sample(walks, min(len(walks), 4)):
                    seen.append(self.judge(box, first, second, walk))
        self.assertEqual(set(seen), {False, True})

    def test_changed_paths(self):
        chance = random.Random(146)
        seen = []
        for box in many_boxes():
            for first, second in pairs_of(box, 6, chance):
                path = straight_path(box, first, second)
                value = chance.choice(list(all_walks(first, second))) if path is None else path
                for turn in range(6):
                    seen.append(self.judge(box, first, second, changed_path(value, box[0], chance)))
        self.assertEqual(set(seen), {False, True})

    def test_all_short_tuples(self):
        for n in range(3):
            for box in every_box(n):
                for first, second in itertools.product(box[1], repeat=2):
                    for many in range(5):
                        for value in itertools.product(range(2 ** n), repeat=many):
                            self.same(path_holds(box, first, second, value), wanted_path(box, first, second, value))

    def test_other_values(self):
        for box in ((0, (0,)), (1, (0, 1)), (2, (0, 1, 3)), RING):
            for first, second in itertools.product(box[1], repeat=2):
                for value in OTHER_VALUES:
                    self.judge(box, first, second, value)
                    self.judge(box, first, second, (value,))
                    self.judge(box, first, second, (first, value))
                    self.judge(box, first, second, (first, value, second))

    def test_a_bool_is_not_a_number(self):
        box = (2, (0, 1, 3))
        self.same(path_holds(box, 0, 3, (0, 1, 3)), True)
        self.same(path_holds(box, 0, 3, (0, True, 3)), False)
        self.same(path_holds(box, 0, 3, (False, 1, 3)), False)
        self.same(path_holds(box, 1, 1, (1,)), True)
        self.same(path_holds(box, 1, 1, (True,)), False)
        self.same(path_holds(box, 0, 0, (False,)), False)
        for value in NOT_NUMBERS:
            self.same(path_holds(box, 0, 3, (0, value, 3)), False)

    def test_longer_paths_are_not_straight(self):
        box = (2, (0, 1, 2, 3))
        self.same(path_holds(box, 0, 1, (0, 2, 3, 1)), False)
        self.same(path_holds(box, 0, 0, (0, 1, 0)), False)
        self.same(path_holds(box, 0, 1, (0, 1, 0, 1)), False)
        self.same([path_holds(box, 0, 3, (0, 1, 3)), path_holds(box, 0, 3, (0, 2, 3))], [True, True])
        self.same([path_holds(box, 0, 3, (0, 1)), path_holds(box, 0, 3, (1, 0, 2))], [False, False])

    def test_steps_and_ends(self):
        # As many cards as a straight path has, but one step is none, or is too wide, or an end is wrong.
        box = (3, tuple(range(8)))
        self.same(path_holds(box, 0, 3, (0, 0, 3)), False)
        self.same(path_holds(box, 0, 3, (0, 3, 3)), False)
        self.same(path_holds(box, 0, 3, (0, 4, 3)), False)
        self.same(path_holds(box, 0, 3, (4, 5, 7)), False)
        self.same(path_holds(box, 0, 3, (0, 1, 5)), False)
        self.same(path_holds(box, 0, 3, (5, 1, 3)), False)


class ComponentsTest(StrictCase):
    def judge(self, box):
        groups = wanted_groups(box)
        self.check(component_cards, (box,), groups)
        self.assertEqual(sorted(card for group in groups for card in group), list(box[1]))
        self.assertEqual(list(groups), sorted(groups))

    def test_many_boxes(self):
        for box in many_boxes():
            if box[0] < 6:
                self.judge(box)

    def test_few_cards_of_six_switches(self):
        chance = random.Random(147)
        for many in range(13):
            for turn in range(3):
                self.judge((6, tuple(sorted(chance.sample(range(64), many)))))

    def test_larger_boxes(self):
        for box in boxes_of(6, 2, 147):
            self.judge(box)

    def test_edges(self):
        for n in range(7):
            self.same(component_cards((n, ())), ())
            self.same(component_cards((n, tuple(range(2 ** n)))), (tuple(range(2 ** n)),))
            even = tuple(card for card in range(2 ** n) if size_in_digits(card) % 2 == 0)
            self.same(component_cards((n, even)), tuple((card,) for card in even))
        self.same(component_cards(RING), ((1, 2, 3, 4, 5, 6),))
        self.same(component_cards((3, (0, 3, 4, 7))), ((0, 4), (3, 7)))


class SmoothPathsTest(StrictCase):
    def boxes(self):
        """Smooth boxes of up to five switches: closed, with few switches on, cubes, grown, all cards but one."""
        chance = random.Random(148)
        found = [box for box in smooth_boxes() if box[0] < 6]
        for n in range(1, 6):
            found += [closed_box(n, [chance.randrange(2 ** n) for card in range(many)]) for many in (1, 2, 3)]
            found += [box for size, box in largest_boxes(n, 148)]
            found += [(n, tuple(chance.choice(list(CUBES[n][directions].values())))) for directions in range(2 ** n)]
            found += list(grown_boxes(n, n, 148))
            found.append(without_card((n, tuple(range(2 ** n))), chance.randrange(2 ** n)))
        return found + [wanted_flipped(box, chance.randrange(2 ** box[0])) for box in found]

    def test_straight_paths(self):
        chance = random.Random(149)
        for box in self.boxes():
            self.assertIsNone(wanted_rough(box))
            for first, second in pairs_of(box, 10, chance):
                path = straight_path(box, first, second)
                self.same(path_holds(box, first, second, path), True)
                self.same(wanted_path(box, first, second, path), True)
                self.same(steps_between(box, first, second), size_in_digits(first ^ second))
            self.same(component_cards(box), (box[1],) if box[1] else ())


if __name__ == "__main__":
    unittest.main()
