"""Sample values for the tests, and the definitions of DOC.md written down a second time.

The second definitions work on words of the letters 0, 1 and *, one letter for
each switch, so that they share no step with the package.
"""

import copy
import itertools
import random
import unittest

NOT_NUMBERS = (None, True, False, "", "1", "solid", (), (0,), [], [0], {}, {"a": 1})


def deep_value(levels):
    value = 1
    for level in range(levels):
        value = ((value,), [value], {"k": value})[level % 3]
    return value


OTHER_VALUES = NOT_NUMBERS + (
    0, 1, -1, 6, 64, 10 ** 29, -(10 ** 29), "x" * 2000, "a\nb", "broken",
    (1, 2), (2, ()), [2, ()], (2, (0,), ()), ((), ()), ((2,), (0,)), ("2", (0,)),
    tuple(range(1000)), list(range(1000)), deep_value(20),
    ("solid",), ("solid", 0), ("solid", None), ("broken", ()), ("broken", (0,)),
    ("broken", [0]), ["solid", 0], ("solid", (0,)), ("broken", 0), ("Solid", 0),
    ("solid", 0, 0), {"solid": 0}, ("solid", True), ("solid", False), ("solid", -1),
    ("shown", (0,)), ("missing", 0),
)


def number_of(word):
    return sum(2 ** k for k, letter in enumerate(word) if letter == "1")


def make_cubes(n):
    """All cubes of n switches: {directions: {base: ascending list of cards}}."""
    table = {}
    for word in itertools.product("01*", repeat=n):
        base = number_of(["1" if letter == "1" else "0" for letter in word])
        directions = number_of(["1" if letter == "*" else "0" for letter in word])
        choices = ["01" if letter == "*" else letter for letter in word]
        cards = sorted(number_of(filled) for filled in itertools.product(*choices))
        table.setdefault(directions, {})[base] = cards
    return table


CUBES = [make_cubes(n) for n in range(7)]


def wanted_bases(box, switches):
    n, cards = box
    return tuple(sorted(base for base, inside in CUBES[n][switches].items() if set(inside) <= set(cards)))


def wanted_certificate(box, switches):
    n, cards = box
    bases = wanted_bases(box, switches)
    if bases:
        return ("solid", bases[0])
    table = CUBES[n][switches]
    return ("broken", tuple(min(set(table[base]) - set(cards)) for base in sorted(table)))


def wanted_holds(box, switches, value):
    n, cards = box
    if type(value) is not tuple or len(value) != 2 or type(value[0]) is not str:
        return False
    word, proof = value
    if word == "solid":
        return type(proof) is int and proof in wanted_bases(box, switches)
    table = CUBES[n][switches]
    if word != "broken" or type(proof) is not tuple or len(proof) != len(table):
        return False
    outside = [set(table[base]) - set(cards) for base in sorted(table)]
    return all(type(card) is int and card in missing for card, missing in zip(proof, outside))


def wanted_cubes(box):
    n, cards = box
    found = []
    for directions, table in CUBES[n].items():
        found += [(base, directions) for base, inside in table.items() if set(inside) <= set(cards)]
    return tuple(sorted(found))


def every_box(n):
    for bits in itertools.product((False, True), repeat=2 ** n):
        yield (n, tuple(card for card, kept in enumerate(bits) if kept))


def boxes_of(n, rounds, seed):
    """Any cards, few, many, cards with few switches on, all but two opposite ones."""
    chance = random.Random(seed * 100 + n)
    everything = range(2 ** n)
    yield (n, ())
    yield (n, tuple(everything))
    yield (n, tuple(card for card in everything if bin(card).count("1") <= n // 2))
    for turn in range(rounds):
        for share in (50, 15, 85):
            yield (n, tuple(card for card in everything if chance.randrange(100) < share))
        yield (n, tuple(card for card in everything if bin(card).count("1") <= chance.randrange(n + 1)))
        left_out = chance.randrange(2 ** n)
        yield (n, tuple(card for card in everything if card not in (left_out, 2 ** n - 1 - left_out)))


def sample_boxes(rounds=3, seed=1):
    """Boxes of zero to six switches, and all boxes of at most two."""
    found = []
    for n in range(3):
        found += list(every_box(n))
    for n in range(3, 7):
        found += list(boxes_of(n, rounds, seed))
    return found


class StrictCase(unittest.TestCase):
    """Compares results by repr, so that True is not 1 and a list is not a tuple."""

    def same(self, got, wanted, about=None):
        self.assertEqual(repr(got), repr(wanted), about)

    def check(self, function, arguments, wanted):
        """The result, the result of an equal call, and that the arguments stay as they are."""
        before = copy.deepcopy(arguments)
        self.same(function(*arguments), wanted, arguments)
        self.same(function(*copy.deepcopy(arguments)), wanted, arguments)
        self.same(arguments, before)
