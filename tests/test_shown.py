"""Point 5: patterns, shown sets, and their certificates."""

import itertools
import random
import unittest

from tests.samples import (
    OTHER_VALUES,
    PATTERNS,
    StrictCase,
    boxes_of,
    changed_certificate,
    every_box,
    many_boxes,
    sample_boxes,
    wanted_cards,
    wanted_missing,
    wanted_shown,
    wanted_shown_certificate,
    wanted_shown_holds,
)

from cardboxes.shown import is_shown, patterns_of, shown_certificate, shown_holds, shown_sets


class ShownSetsTest(StrictCase):
    def test_each_set(self):
        for box in sample_boxes(seed=11):
            for switches in range(2 ** box[0]):
                table = wanted_cards(box, switches)
                shown = tuple(pattern for pattern, cards in table.items() if cards)
                self.check(patterns_of, (box, switches), shown)
                self.check(is_shown, (box, switches), len(shown) == len(table))
                self.check(shown_certificate, (box, switches), wanted_shown_certificate(box, switches))

    def test_shown_sets(self):
        for box in many_boxes():
            self.check(shown_sets, (box,), wanted_shown(box))

    def test_equal_calls_after_another_box(self):
        for n in range(5):
            first, second = (n, tuple(range(2 ** n))), (n, (0,))
            results = [shown_sets(first), shown_sets(second), shown_sets(first), shown_sets(second)]
            self.same(results, [tuple(range(2 ** n)), (0,)] * 2)
            results = [is_shown(first, 0), is_shown((n, ()), 0), is_shown(first, 0)]
            self.same(results, [True, False, True])

    def test_empty_box(self):
        for n in range(7):
            self.same(shown_sets((n, ())), ())
            for switches in range(2 ** n):
                self.same(patterns_of((n, ()), switches), ())
                self.same(is_shown((n, ()), switches), False)
                self.same(shown_certificate((n, ()), switches), ("missing", 0))

    def test_one_card(self):
        for n in range(7):
            for card in range(2 ** n):
                box = (n, (card,))
                self.same(shown_sets(box), (0,))
                self.same(patterns_of(box, 0), (0,))
                self.same(patterns_of(box, 2 ** n - 1), (card,))
                self.same(is_shown(box, 0), True)
                self.same(shown_certificate(box, 0), ("shown", (card,)))

    def test_box_of_all_cards(self):
        for n in range(7):
            box = (n, tuple(range(2 ** n)))
            self.same(shown_sets(box), tuple(range(2 ** n)))
            for switches in range(2 ** n):
                # The smallest card with a pattern has no other switch on.
                patterns = tuple(sorted(set(PATTERNS[n][switches])))
                self.same(patterns_of(box, switches), patterns)
                self.same(shown_certificate(box, switches), ("shown", patterns))

    def test_beyond_the_bound(self):
        box = (7, (0, 64))
        self.same(shown_sets(box), (0, 64))
        self.same(shown_certificate(box, 64), ("shown", (0, 64)))
        self.same(shown_holds(box, 65, ("missing", 1)), True)

    def test_smallest_card_and_smallest_missing_pattern(self):
        self.same(shown_certificate((3, (1, 2, 3, 4, 5, 6)), 3), ("shown", (4, 1, 2, 3)))
        self.same(shown_certificate((3, (1, 2, 3, 4, 5, 6)), 7), ("missing", 0))
        self.same(shown_certificate((3, (0, 7)), 5), ("missing", 1))
        self.same(shown_certificate((3, (0, 1, 7)), 5), ("missing", 4))


def any_cards(box, switches, chance):
    """A certificate with any of the cards that have each pattern, or None."""
    table = wanted_cards(box, switches)
    if not all(table.values()):
        return None
    return ("shown", tuple(chance.choice(cards) for cards in table.values()))


def single_changes(value, n, chance):
    """A certificate "shown" with one card replaced, dropped, repeated or exchanged, with another word, as a list."""
    word, cards = value
    at, other = chance.randrange(len(cards)), chance.randrange(len(cards))
    before, card, after = cards[:at], cards[at], cards[at + 1:]
    for part in (chance.randrange(2 ** n), card + 2 ** n, card - 2 ** n, -1, None, str(card), [card], (card,)):
        yield (word, before + (part,) + after)
    for part in (False, True):
        yield (word, before + (part,) + after)
    yield (word, before + after)
    yield (word, before + (card, card) + after)
    exchanged = list(cards)
    exchanged[at], exchanged[other] = cards[other], cards[at]
    yield (word, tuple(exchanged))
    yield (word, cards[::-1])
    yield (word, list(cards))
    yield [word, cards]
    yield (word, cards, cards)
    yield (word,) + cards
    for another in ("missing", "Shown", "shown ", "solid", "broken", "", None, True, ("shown",), ["shown"]):
        yield (another, cards)


class ShownHoldsTest(StrictCase):
    def judge(self, box, switches, value):
        self.check(shown_holds, (box, switches, value), wanted_shown_holds(box, switches, value))

    def test_own_certificates(self):
        for box in sample_boxes(seed=12):
            for switches in range(2 ** box[0]):
                value = shown_certificate(box, switches)
                self.check(shown_holds, (box, switches, value), True)

    def test_any_cards_and_changes(self):
        chance = random.Random(13)
        for box in sample_boxes(rounds=1, seed=13):
            for switches in range(2 ** box[0]):
                value = any_cards(box, switches, chance)
                if value is not None:
                    self.check(shown_holds, (box, switches, value), True)
                    for changed in single_changes(value, box[0], chance):
                        self.judge(box, switches, changed)

    def test_each_pattern(self):
        for box in sample_boxes(rounds=1, seed=14):
            n = box[0]
            if n < 6:
                for switches in range(2 ** n):
                    missing = wanted_missing(box, switches)
                    for pattern in range(-2, 2 ** n + 2):
                        wanted = pattern in missing
                        self.check(shown_holds, (box, switches, ("missing", pattern)), wanted)

    def test_all_short_tuples_of_cards(self):
        for n in range(3):
            for box in every_box(n):
                for switches in range(2 ** n):
                    for many in range(2 ** n + 1):
                        for proof in itertools.product(range(2 ** n), repeat=many):
                            wanted = wanted_shown_holds(box, switches, ("shown", proof))
                            self.same(shown_holds(box, switches, ("shown", proof)), wanted)

    def test_cards_that_are_not_in_the_box(self):
        chance = random.Random(15)
        for n in range(3, 7):
            for box in boxes_of(n, 2, 15):
                for switches in range(2 ** n):
                    value = any_cards((n, tuple(range(2 ** n))), switches, chance)
                    self.judge(box, switches, value)

    def test_changed_certificates(self):
        chance = random.Random(16)
        for box in sample_boxes(rounds=2, seed=16):
            for switches in range(2 ** box[0]):
                for changes in (1, 2, 1, 2):
                    value = shown_certificate(box, switches)
                    for step in range(changes):
                        value = changed_certificate(value, box[0], chance)
                    self.judge(box, switches, value)

    def test_other_values(self):
        boxes = [(0, ()), (0, (0,)), (1, ()), (1, (0,)), (1, (0, 1)), (2, (0, 1, 3)), (3, (1, 2, 3, 4, 5, 6))]
        for box in boxes:
            for switches in range(2 ** box[0]):
                for value in OTHER_VALUES:
                    self.judge(box, switches, value)
                    self.judge(box, switches, ("shown", value))
                    self.judge(box, switches, ("missing", value))
                    self.judge(box, switches, ("shown", (value,)))
                    self.judge(box, switches, ("shown", (0, value)))
                    self.judge(box, switches, (value, 0))
                    self.judge(box, switches, (value, (0,)))

    def test_a_bool_is_not_a_number(self):
        self.same(shown_holds((1, (0, 1)), 1, ("shown", (0, 1))), True)
        self.same(shown_holds((1, (0, 1)), 1, ("shown", (0, True))), False)
        self.same(shown_holds((1, (0, 1)), 1, ("shown", (False, 1))), False)
        self.same(shown_holds((1, (0,)), 1, ("missing", 1)), True)
        self.same(shown_holds((1, (0,)), 1, ("missing", True)), False)
        self.same(shown_holds((1, (1,)), 1, ("missing", 0)), True)
        self.same(shown_holds((1, (1,)), 1, ("missing", False)), False)

    def test_patterns_that_do_not_belong_to_the_set(self):
        box = (2, (0,))
        self.same(shown_holds(box, 2, ("missing", 2)), True)
        self.same(shown_holds(box, 2, ("missing", 1)), False)
        self.same(shown_holds(box, 2, ("missing", 3)), False)
        self.same(shown_holds(box, 2, ("missing", 4)), False)
        self.same(shown_holds(box, 2, ("missing", -2)), False)

    def test_both_words_are_never_accepted(self):
        chance = random.Random(17)
        for box in sample_boxes(rounds=2, seed=17):
            n = box[0]
            for switches in range(2 ** n):
                everything = any_cards((n, tuple(range(2 ** n))), switches, chance)
                patterns = sorted(set(PATTERNS[n][switches]))
                values = [shown_certificate(box, switches), everything]
                values += [("missing", chance.choice(patterns)) for turn in range(2)]
                words = {value[0] for value in values if shown_holds(box, switches, value)}
                self.assertEqual(len(words), 1)


if __name__ == "__main__":
    unittest.main()
