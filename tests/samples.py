"""Sample values for the tests, and the definitions of DOC.md written down a second time.

The second definitions work on words of the letters 0, 1 and *, one letter for
each switch, so that they share no step with the package.
"""

import copy
import functools
import itertools
import random
import unittest

NOT_NUMBERS = (None, True, False, "", "1", "solid", (), (0,), [], [0], {}, {"a": 1})


def deep_value(levels):
    value = 1
    for level in range(levels):
        value = ((value,), [value], {"k": value})[level % 3]
    return value


OTHER_VALUES = NOT_NUMBERS + (
    0, 1, -1, 6, 64, 10 ** 29, -(10 ** 29), "x" * 2000, "a\nb", "broken",
    (1, 2), (2, ()), [2, ()], (2, (0,), ()), ((), ()), ((2,), (0,)), ("2", (0,)),
    tuple(range(1000)), list(range(1000)), deep_value(20),
    ("solid",), ("solid", 0), ("solid", None), ("broken", ()), ("broken", (0,)),
    ("broken", [0]), ["solid", 0], ("solid", (0,)), ("broken", 0), ("Solid", 0),
    ("solid", 0, 0), {"solid": 0}, ("solid", True), ("solid", False), ("solid", -1),
    ("shown", (0,)), ("missing", 0), "shown", "missing", ("shown",), ("missing",), ("shown", ()), ("shown", [0]),
    ("shown", (0, 1)), ("shown", [0, 1]), ("shown", (0, True)), ("shown", (False, 1)), ("shown", (None,)),
    ("shown", 0), ("Shown", (0,)), ["shown", (0,)], {"shown": (0,)}, ("shown", (0,), 0),
    ("missing", 1), ("missing", None), ("missing", False), ("missing", True), ("missing", -1),
    ("missing", (0,)), ("missing", "0"), ["missing", 0], ("Missing", 0), ("missing", 0, 0),
)


def number_of(word):
    return sum(2 ** k for k, letter in enumerate(word) if letter == "1")


def make_cubes(n):
    """All cubes of n switches: {directions: {base: ascending list of cards}}."""
    table = {}
    for word in itertools.product("01*", repeat=n):
        base = number_of(["1" if letter == "1" else "0" for letter in word])
        directions = number_of(["1" if letter == "*" else "0" for letter in word])
        choices = ["01" if letter == "*" else letter for letter in word]
        cards = sorted(number_of(filled) for filled in itertools.product(*choices))
        table.setdefault(directions, {})[base] = cards
    return table


CUBES = [make_cubes(n) for n in range(7)]


def wanted_bases(box, switches):
    n, cards = box
    return tuple(sorted(base for base, inside in CUBES[n][switches].items() if set(inside) <= set(cards)))


def wanted_certificate(box, switches):
    n, cards = box
    bases = wanted_bases(box, switches)
    if bases:
        return ("solid", bases[0])
    table = CUBES[n][switches]
    return ("broken", tuple(min(set(table[base]) - set(cards)) for base in sorted(table)))


def wanted_holds(box, switches, value):
    n, cards = box
    if type(value) is not tuple or len(value) != 2 or type(value[0]) is not str:
        return False
    word, proof = value
    if word == "solid":
        return type(proof) is int and proof in wanted_bases(box, switches)
    table = CUBES[n][switches]
    if word != "broken" or type(proof) is not tuple or len(proof) != len(table):
        return False
    outside = [set(table[base]) - set(cards) for base in sorted(table)]
    return all(type(card) is int and card in missing for card, missing in zip(proof, outside))


def wanted_cubes(box):
    n, cards = box
    found = []
    for directions, table in CUBES[n].items():
        found += [(base, directions) for base, inside in table.items() if set(inside) <= set(cards)]
    return tuple(sorted(found))


def word_of(n, number):
    return f"{number:b}".zfill(n)[::-1]


def digits_of(n, number):
    """The letters of all n switches, switch 0 first; none if there are no switches."""
    return word_of(n, number)[:n]


def digits_in(box):
    return [digits_of(box[0], card) for card in box[1]]


def box_of_digits(n, words):
    return (n, tuple(sorted({number_of(word) for word in words})))


def make_patterns(n):
    """The patterns of all cards on all sets of n switches: [set][card]."""
    words = [word_of(n, number) for number in range(2 ** n)]
    return [[number_of(min(pair) for pair in zip(card, switches)) for card in words] for switches in words]


PATTERNS = [make_patterns(n) for n in range(7)]


def wanted_cards(box, switches):
    """For each pattern on the set, in ascending order, the list of the cards with it."""
    n, cards = box
    table = {pattern: [] for pattern in sorted(PATTERNS[n][switches])}
    for card in cards:
        table[PATTERNS[n][switches][card]].append(card)
    return table


def wanted_missing(box, switches):
    return [pattern for pattern, cards in wanted_cards(box, switches).items() if not cards]


def wanted_shown(box):
    return tuple(switches for switches in range(2 ** box[0]) if not wanted_missing(box, switches))


def wanted_solid(box):
    return tuple(switches for switches in range(2 ** box[0]) if wanted_bases(box, switches))


def wanted_rough(box):
    return min(set(wanted_shown(box)) - set(wanted_solid(box)), default=None)


def wanted_shown_certificate(box, switches):
    missing = wanted_missing(box, switches)
    if missing:
        return ("missing", missing[0])
    return ("shown", tuple(cards[0] for cards in wanted_cards(box, switches).values()))


def wanted_shown_holds(box, switches, value):
    if type(value) is not tuple or len(value) != 2 or type(value[0]) is not str:
        return False
    word, proof = value
    if word == "missing":
        return type(proof) is int and proof in wanted_missing(box, switches)
    table = wanted_cards(box, switches)
    if word != "shown" or type(proof) is not tuple or len(proof) != len(table):
        return False
    return all(type(card) is int and card in cards for card, cards in zip(proof, table.values()))


def wanted_flipped(box, switches):
    n = box[0]
    exchanged = {("0", "0"): "0", ("1", "0"): "1", ("0", "1"): "1", ("1", "1"): "0"}
    words = [[exchanged[pair] for pair in zip(word, digits_of(n, switches))] for word in digits_in(box)]
    return box_of_digits(n, words)


def wanted_pressed(box, switch):
    words = digits_in(box)
    pressed = []
    for word in words:
        off = word[:switch] + "0" + word[switch + 1:]
        pressed.append(word if off in words else off)
    return box_of_digits(box[0], pressed)


def wanted_pressed_all(box, order):
    for switch in order:
        box = wanted_pressed(box, switch)
    return box


def size_in_digits(switches):
    return f"{switches:b}".count("1")


def with_card(box, card):
    return (box[0], tuple(sorted(box[1] + (card,))))


def without_card(box, card):
    return (box[0], tuple(other for other in box[1] if other != card))


def other_cards(box):
    return [card for card in range(2 ** box[0]) if card not in box[1]]


def every_box(n):
    for bits in itertools.product((False, True), repeat=2 ** n):
        yield (n, tuple(card for card, kept in enumerate(bits) if kept))


def closed_box(n, cards):
    """The box of all subsets of these cards."""
    return (n, tuple(sorted({part for card in cards for part in PATTERNS[n][card]})))


def orders_of(n, many, chance):
    """The ascending and the descending order, and so many others."""
    found = [tuple(range(n)), tuple(range(n))[::-1]]
    return found + [tuple(chance.sample(range(n), n)) for turn in range(many)]


def boxes_of(n, rounds, seed):
    """Any cards, few, many, cards with few switches on, all but two opposite ones."""
    chance = random.Random(seed * 100 + n)
    everything = range(2 ** n)
    yield (n, ())
    yield (n, tuple(everything))
    yield (n, tuple(card for card in everything if bin(card).count("1") <= n // 2))
    for turn in range(rounds):
        for share in (50, 15, 85):
            yield (n, tuple(card for card in everything if chance.randrange(100) < share))
        yield (n, tuple(card for card in everything if bin(card).count("1") <= chance.randrange(n + 1)))
        left_out = chance.randrange(2 ** n)
        yield (n, tuple(card for card in everything if card not in (left_out, 2 ** n - 1 - left_out)))


def sample_boxes(rounds=3, seed=1):
    """Boxes of zero to six switches, and all boxes of at most two."""
    found = []
    for n in range(3):
        found += list(every_box(n))
    for n in range(3, 7):
        found += list(boxes_of(n, rounds, seed))
    return found


def grown_boxes(n, step, seed):
    """Smooth boxes: each card is added if the box stays smooth; every step-th box and the last one."""
    chance = random.Random(seed * 100 + n)
    box = (n, ())
    for card in chance.sample(range(2 ** n), 2 ** n):
        grown = with_card(box, card)
        if wanted_rough(grown) is None:
            box = grown
            if len(box[1]) % step == 1 % step:
                yield box
    yield box


def few_changes_box(n, size):
    """The cards whose digits change at most so often, the first one being compared with 0."""
    words = {card: "0" + word_of(n, card)[:n] for card in range(2 ** n)}
    return (n, tuple(card for card, word in words.items() if sum(a != b for a, b in zip(word, word[1:])) <= size))


def largest_boxes(n, seed):
    """Boxes with as many cards as the size of their shown sets allows, with that size."""
    chance = random.Random(seed * 100 + n)
    for size in range(n + 1):
        mask = chance.randrange(2 ** n)
        near = tuple(card for card in range(2 ** n) if size_in_digits(card ^ mask) <= size)
        yield size, (n, near)
        yield size, few_changes_box(n, size)


@functools.cache
def smooth_boxes():
    """Smooth boxes of zero to six switches, among them all of at most three."""
    found = [box for n in range(4) for box in every_box(n) if wanted_rough(box) is None]
    for n in range(4, 7):
        for turn in range(3):
            found += list(grown_boxes(n, n - 1, turn))
        found += [box for size, box in largest_boxes(n, 1)]
        found += [(n, ())]
    return found


@functools.cache
def many_boxes():
    """All boxes of at most three switches, any boxes of four to six, and smooth ones."""
    found = [box for n in range(4) for box in every_box(n)]
    for n in range(4, 7):
        found += list(boxes_of(n, 4, 9))
    return found + [box for box in smooth_boxes() if box[0] > 3]


def places_in(value, path=()):
    """The paths to the value itself and to all parts of its tuples."""
    yield path
    if type(value) is tuple:
        for index, part in enumerate(value):
            yield from places_in(part, path + (index,))


def replaced(value, path, part):
    if not path:
        return part
    index = path[0]
    return value[:index] + (replaced(value[index], path[1:], part),) + value[index + 1:]


def changed_certificate(value, n, chance):
    path = chance.choice(list(places_in(value)))
    old = value
    for index in path:
        old = old[index]
    parts = [chance.randrange(-1, 2 ** n + 2), "solid", "broken", "shown", "missing", *NOT_NUMBERS]
    if type(old) is tuple:
        parts += [list(old), old[:-1], old[1:], old + old[-1:], old[::-1]]
    if type(old) is int:
        parts += [old + 1, old - 1, old ^ 1, old + 2 ** n, old - 2 ** n, bool(old), str(old), (old,)]
    return replaced(value, path, chance.choice(parts))


class StrictCase(unittest.TestCase):
    """Compares results by repr, so that True is not 1 and a list is not a tuple."""

    def same(self, got, wanted, about=None):
        self.assertEqual(repr(got), repr(wanted), about)

    def raises(self, kind, fields, function, *arguments, **named):
        """The error is of this very class and has these fields; a value is the very one that was passed."""
        before = copy.deepcopy((arguments, named))
        with self.assertRaises(Exception) as caught:
            function(*arguments, **named)
        error = caught.exception
        self.assertIs(type(error), kind, (error, arguments))
        self.same(vars(error), fields)
        if "value" in fields:
            self.assertIs(error.value, fields["value"])
        self.same((arguments, named), before)

    def check(self, function, arguments, wanted):
        """The result, the result of an equal call, and that the arguments stay as they are."""
        before = copy.deepcopy(arguments)
        self.same(function(*arguments), wanted, arguments)
        self.same(function(*copy.deepcopy(arguments)), wanted, arguments)
        self.same(arguments, before)
