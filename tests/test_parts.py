"""Point 8, and (d) of point 2: held, dropped and projected boxes, and boxes of edges."""

import itertools
import random
import unittest

from tests.samples import (
    PATTERNS,
    StrictCase,
    box_of_digits,
    boxes_of,
    closed_box,
    digits_in,
    digits_of,
    every_box,
    grown_boxes,
    number_of,
    orders_of,
    smooth_boxes,
    wanted_bases,
    wanted_flipped,
    wanted_rough,
    wanted_shown,
    wanted_solid,
)

from cardboxes.boxes import opposite_box
from cardboxes.changes import add_fixed, add_free, flip_switches, product_box, rename_switches
from cardboxes.cubes import bases_of, is_solid, solid_sets
from cardboxes.parts import drop_switch, edge_box, hold_switch, project_to
from cardboxes.shown import is_shown, shown_sets
from cardboxes.smooth import is_smooth


def cut(word, switch):
    return word[:switch] + word[switch + 1:]


def wanted_held(box, switch, on):
    words = [word for word in digits_in(box) if word[switch] == ("1" if on else "0")]
    return box_of_digits(box[0] - 1, [cut(word, switch) for word in words])


def wanted_dropped(box, switch):
    return box_of_digits(box[0] - 1, [cut(word, switch) for word in digits_in(box)])


def wanted_edges(box, switch):
    short = [cut(word, switch) for word in digits_in(box)]
    return box_of_digits(box[0] - 1, [word for word in short if short.count(word) == 2])


def wanted_projected(box, switches):
    kept = [k for k in range(box[0]) if digits_of(box[0], switches)[k] == "1"]
    return box_of_digits(len(kept), [[word[k] for k in kept] for word in digits_in(box)])


def renumbered(n, number, switches):
    """The number that is left of a set of n switches if only these switches stay."""
    word = digits_of(n, number)
    return number_of([word[k] for k in range(n) if digits_of(n, switches)[k] == "1"])


def all_kinds(low, high, rounds, seed):
    """Boxes of so many switches: any, many, few, closed, with few switches on, all but two; all small ones."""
    chance = random.Random(seed)
    found = [box for n in range(low, min(high, 2) + 1) for box in every_box(n)]
    for n in range(max(low, 3), high + 1):
        found += list(boxes_of(n, rounds, seed))
        found += [closed_box(n, [chance.randrange(2 ** n) for card in range(many)]) for many in (1, 2, 4)]
        found.append(random_pair(n, chance))
    return found


def random_pair(n, chance):
    """A box of two cards that differ in one switch."""
    card = chance.randrange(2 ** n)
    return (n, tuple(sorted((card, card ^ 2 ** chance.randrange(n)))))


class HoldTest(StrictCase):
    def test_each_switch(self):
        for box in all_kinds(1, 6, 3, 111):
            for switch in range(box[0]):
                for on in (False, True):
                    self.check(hold_switch, (box, switch, on), wanted_held(box, switch, on))
                halves = [len(hold_switch(box, switch, on)[1]) for on in (False, True)]
                self.assertEqual(sum(halves), len(box[1]))

    def test_edges(self):
        self.same([hold_switch((1, (0,)), 0, False), hold_switch((1, (0,)), 0, True)], [(0, (0,)), (0, ())])
        self.same([hold_switch((1, ()), 0, False), hold_switch((1, (0, 1)), 0, True)], [(0, ()), (0, (0,))])
        self.same(hold_switch((3, (2, 5, 7)), 1, True), (2, (0, 3)))
        self.same(hold_switch((3, (2, 5, 7)), 2, True), (2, (1, 3)))
        self.same(hold_switch((6, (63,)), 5, True), (5, (31,)))
        self.same(hold_switch((6, tuple(range(64))), 0, False), (5, tuple(range(32))))


class DropTest(StrictCase):
    def test_each_switch(self):
        for box in all_kinds(1, 6, 3, 112):
            for switch in range(box[0]):
                self.check(drop_switch, (box, switch), wanted_dropped(box, switch))
                halves = [set(hold_switch(box, switch, on)[1]) for on in (False, True)]
                self.same(drop_switch(box, switch)[1], tuple(sorted(halves[0] | halves[1])))

    def test_two_switches(self):
        for box in all_kinds(2, 6, 1, 113):
            for low, high in itertools.combinations(range(box[0]), 2):
                one = drop_switch(drop_switch(box, high), low)
                self.same(drop_switch(drop_switch(box, low), high - 1), one)

    def test_edges(self):
        self.same([drop_switch((1, ()), 0), drop_switch((1, (1,)), 0)], [(0, ()), (0, (0,))])
        self.same(drop_switch((1, (0, 1)), 0), (0, (0,)))
        self.same(drop_switch((3, (1, 2, 4, 6)), 1), (2, (0, 1, 2)))
        self.same(drop_switch((6, (31, 63)), 5), (5, (31,)))


class EdgeTest(StrictCase):
    def test_each_switch(self):
        seen = set()
        for box in all_kinds(1, 6, 3, 114):
            for switch in range(box[0]):
                wanted = wanted_edges(box, switch)
                self.check(edge_box, (box, switch), wanted)
                halves = [set(hold_switch(box, switch, on)[1]) for on in (False, True)]
                self.same(wanted[1], tuple(sorted(halves[0] & halves[1])))
                seen.add(bool(wanted[1]))
        self.assertEqual(seen, {False, True})

    def test_two_switches(self):
        for box in all_kinds(2, 6, 1, 115):
            for low, high in itertools.combinations(range(box[0]), 2):
                one = edge_box(edge_box(box, high), low)
                self.same(edge_box(edge_box(box, low), high - 1), one)

    def test_edges(self):
        for n in range(1, 7):
            for switch in range(n):
                full = (n, tuple(range(2 ** n)))
                self.same(edge_box(full, switch), (n - 1, tuple(range(2 ** (n - 1)))))
                self.same(edge_box((n, ()), switch), (n - 1, ()))
                for card in range(2 ** n):
                    pair = (n, tuple(sorted((card, card ^ 2 ** switch))))
                    self.assertEqual(len(edge_box(pair, switch)[1]), 1)
                    self.same(edge_box((n, (card,)), switch), (n - 1, ()))


class ProjectTest(StrictCase):
    def some_sets(self, n, chance):
        return range(2 ** n) if n < 6 else [0, 63, *chance.sample(range(64), 12)]

    def test_each_set(self):
        chance = random.Random(116)
        for box in all_kinds(0, 6, 2, 116):
            for switches in self.some_sets(box[0], chance):
                self.check(project_to, (box, switches), wanted_projected(box, switches))

    def test_empty_set_and_all_switches(self):
        for box in all_kinds(0, 6, 2, 117):
            self.same(project_to(box, 2 ** box[0] - 1), box)
            self.same(project_to(box, 0), (0, (0,) if box[1] else ()))

    def test_one_switch_dropped(self):
        for box in all_kinds(1, 6, 1, 118):
            for switch in range(box[0]):
                self.same(project_to(box, 2 ** box[0] - 1 - 2 ** switch), drop_switch(box, switch))

    def test_part_of_a_set(self):
        chance = random.Random(119)
        for box in all_kinds(0, 6, 1, 119):
            n = box[0]
            for switches in self.some_sets(n, chance):
                for part in chance.sample(sorted(set(PATTERNS[n][switches])), 1):
                    twice = project_to(project_to(box, switches), renumbered(n, part, switches))
                    self.same(twice, project_to(box, part))


class ShownByProjectionTest(StrictCase):
    def test_projection_has_all_cards(self):
        for box in all_kinds(0, 5, 2, 120):
            n = box[0]
            shown = shown_sets(box)
            for switches in range(2 ** n):
                many, cards = projected = project_to(box, switches)
                self.same(is_shown(box, switches), len(cards) == 2 ** many)
                inside = [one for one in shown if one in PATTERNS[n][switches]]
                self.same(shown_sets(projected), tuple(sorted(renumbered(n, one, switches) for one in inside)))

    def test_subsets_of_shown_sets(self):
        for box in all_kinds(0, 5, 2, 121):
            shown = set(shown_sets(box))
            for switches in shown:
                self.assertLessEqual(set(PATTERNS[box[0]][switches]), shown)

    def test_edges_and_drops_one_after_another(self):
        chance = random.Random(122)
        for box in all_kinds(0, 5, 2, 122):
            n = box[0]
            for switches in range(2 ** n):
                inside = [k for k in range(n) if switches // 2 ** k % 2]
                outside = [k for k in range(n) if k not in inside]
                edges = self.one_after_another(edge_box, box, inside, chance)
                self.same(is_solid(box, switches), len(edges[1]) > 0)
                self.assertEqual(len(edges[1]), len(bases_of(box, switches)))
                self.assertEqual(len(edges[1]), len(wanted_bases(box, switches)))
                dropped = self.one_after_another(drop_switch, box, outside, chance)
                self.same(dropped, project_to(box, switches))
                self.same(is_shown(box, switches), len(dropped[1]) == 2 ** dropped[0])

    def one_after_another(self, take, box, switches, chance):
        """Take these switches out in any order; those above one that is gone have moved down."""
        gone = []
        for switch in chance.sample(switches, len(switches)):
            box = take(box, switch - len([one for one in gone if one < switch]))
            gone.append(switch)
        return box


class OneSwitchTest(StrictCase):
    def parts_of(self, box, switch):
        held = [hold_switch(box, switch, on) for on in (False, True)]
        return held[0], held[1], drop_switch(box, switch), edge_box(box, switch)

    def test_cards_are_counted(self):
        for box in all_kinds(1, 6, 2, 123):
            for switch in range(box[0]):
                off, on, dropped, edges = self.parts_of(box, switch)
                self.assertEqual(len(off[1]) + len(on[1]), len(box[1]))
                self.assertEqual(len(dropped[1]) + len(edges[1]), len(box[1]))

    def test_shown_and_solid_sets(self):
        for box in all_kinds(1, 5, 2, 124):
            n = box[0]
            for switch in range(n):
                off, on, dropped, edges = self.parts_of(box, switch)
                for switches in range(2 ** n):
                    rest = number_of(cut(digits_of(n, switches), switch))
                    if digits_of(n, switches)[switch] == "0":
                        shown = is_shown(dropped, rest)
                        solid = is_solid(off, rest) or is_solid(on, rest)
                    else:
                        shown = is_shown(off, rest) and is_shown(on, rest)
                        solid = is_solid(edges, rest)
                        if is_shown(edges, rest):
                            self.same(is_shown(box, switches), True)
                    self.same(is_shown(box, switches), shown)
                    self.same(is_solid(box, switches), solid)


class TwoSwitchesTest(StrictCase):
    def test_either_order(self):
        for box in all_kinds(2, 5, 2, 125):
            for low, high in itertools.combinations(range(box[0]), 2):
                for first, second in itertools.product((False, True), repeat=2):
                    one = hold_switch(hold_switch(box, high, first), low, second)
                    self.same(hold_switch(hold_switch(box, low, second), high - 1, first), one)
                for on in (False, True):
                    for take in (drop_switch, edge_box):
                        self.same(take(hold_switch(box, high, on), low), hold_switch(take(box, low), high - 1, on))
                        self.same(take(hold_switch(box, low, on), high - 1), hold_switch(take(box, high), low, on))

    def test_flipped(self):
        for box in all_kinds(1, 5, 2, 126):
            for switch in range(box[0]):
                for switches in range(2 ** box[0]):
                    flipped = flip_switches(box, switches)
                    rest = number_of(cut(digits_of(box[0], switches), switch))
                    for on in (False, True):
                        there = on != (digits_of(box[0], switches)[switch] == "1")
                        held = hold_switch(box, switch, there)
                        self.same(hold_switch(flipped, switch, on), flip_switches(held, rest))
                    for take in (drop_switch, edge_box):
                        self.same(take(flipped, switch), flip_switches(take(box, switch), rest))

    def test_a_held_switch_flipped(self):
        for box in all_kinds(1, 6, 1, 127):
            for switch in range(box[0]):
                flipped = flip_switches(box, 2 ** switch)
                for on in (False, True):
                    self.same(hold_switch(flipped, switch, on), hold_switch(box, switch, not on))
                self.same(drop_switch(flipped, switch), drop_switch(box, switch))
                self.same(edge_box(flipped, switch), edge_box(box, switch))

    def test_renamed(self):
        chance = random.Random(128)
        for box in all_kinds(1, 6, 1, 128):
            n = box[0]
            for order in orders_of(n, 2, chance):
                renamed = rename_switches(box, order)
                for switch in range(n):
                    # What is left of the order once the switch is gone.
                    rest = tuple(old - (old > order[switch]) for old in order[:switch] + order[switch + 1:])
                    for on in (False, True):
                        there = rename_switches(hold_switch(box, order[switch], on), rest)
                        self.same(hold_switch(renamed, switch, on), there)
                    for take in (drop_switch, edge_box):
                        self.same(take(renamed, switch), rename_switches(take(box, order[switch]), rest))


class AddedSwitchTest(StrictCase):
    def test_taken_out_again(self):
        for box in all_kinds(0, 5, 2, 129):
            n = box[0]
            empty = (n, ())
            for on in (False, True):
                fixed = add_fixed(box, on)
                self.same([hold_switch(fixed, n, on), hold_switch(fixed, n, not on)], [box, empty])
                self.same([drop_switch(fixed, n), edge_box(fixed, n)], [box, empty])
            free = add_free(box)
            self.same([hold_switch(free, n, False), hold_switch(free, n, True)], [box, box])
            self.same([drop_switch(free, n), edge_box(free, n)], [box, box])

    def test_projected_products(self):
        chance = random.Random(130)
        for n in range(7):
            for more in range(7 - n):
                firsts, seconds = list(boxes_of(n, 2, 130)), list(boxes_of(more, 2, 131))
                for first, second in itertools.product(chance.sample(firsts, 5), chance.sample(seconds, 5)):
                    product = product_box(first, second)
                    low, high = 2 ** n - 1, 2 ** (n + more) - 2 ** n
                    self.same(project_to(product, low), first if second[1] else (n, ()))
                    self.same(project_to(product, high), second if first[1] else (more, ()))


class SmoothPartsTest(StrictCase):
    def boxes(self):
        chance = random.Random(132)
        found = [box for box in smooth_boxes() if 1 <= box[0] <= 5]
        for n in range(1, 6):
            for turn in range(4):
                closed = closed_box(n, [chance.randrange(2 ** n) for card in range(3)])
                found.append(wanted_flipped(closed, chance.randrange(2 ** n)))
            found += list(grown_boxes(n, n, 132))
        return found

    def judge(self, box):
        self.same(is_smooth(box), True)
        self.assertEqual(len(box[1]), len(shown_sets(box)))
        self.assertEqual(len(box[1]), len(solid_sets(box)))

    def test_parts_and_changes(self):
        chance = random.Random(133)
        for box in self.boxes():
            n = box[0]
            self.judge(box)
            self.judge(opposite_box(box))
            for switch in range(n):
                for part in (drop_switch(box, switch), edge_box(box, switch)):
                    self.judge(part)
                for on in (False, True):
                    self.judge(hold_switch(box, switch, on))
            for switches in range(2 ** n) if n < 5 else chance.sample(range(2 ** n), 6):
                self.judge(project_to(box, switches))
                self.judge(flip_switches(box, switches))
            for order in orders_of(n, 1, chance):
                self.judge(rename_switches(box, order))
            for added in (add_fixed(box, False), add_fixed(box, True), add_free(box)):
                self.judge(added)

    def test_second_definitions(self):
        for box in self.boxes():
            self.assertIsNone(wanted_rough(box))
            for switch in range(box[0]):
                for part in (wanted_dropped(box, switch), wanted_edges(box, switch), wanted_held(box, switch, True)):
                    self.assertEqual(wanted_shown(part), wanted_solid(part))


if __name__ == "__main__":
    unittest.main()
