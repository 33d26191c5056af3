"""Point 15: texts of cards and boxes, and boxes read from texts."""

import random
import re
import unittest

from tests.samples import (
    OTHER_VALUES,
    StrictCase,
    digits_in,
    digits_of,
    every_box,
    many_boxes,
    number_of,
    sample_boxes,
    wanted_flipped,
)

from cardboxes.changes import add_fixed, flip_switches, rename_switches
from cardboxes.errors import BadText, BoxError
from cardboxes.texts import box_text, card_text, parse_box


def wanted_box_text(box):
    words = [word or "-" for word in digits_in(box)]
    return " ".join([str(box[0]) + ":", *(words or ["none"])])


def wanted_read(text):
    """The box of a text, or the index of the first wrong word as ("wrong", index)."""
    if type(text) is not str:
        return ("wrong", None)
    words = re.split(" ", text)
    if not re.fullmatch("[0-6]:", words[0]):
        return ("wrong", 0)
    n = int(words[0][0])
    if len(words) == 1:
        return ("wrong", 1)
    if words[1] == "none":
        return ("wrong", 2) if len(words) > 2 else (n, ())
    cards = []
    for index in range(1, len(words)):
        if not re.fullmatch("[01]{" + str(n) + "}" if n else "-", words[index]):
            return ("wrong", index)
        cards.append(number_of(words[index]))
        if sorted(set(cards)) != cards:
            return ("wrong", index)
    return (n, tuple(cards))


class TextCase(StrictCase):
    def judge(self, text):
        wanted = wanted_read(text)
        if wanted[0] == "wrong":
            self.raises(BadText, {"index": wanted[1]}, parse_box, text)
        else:
            self.check(parse_box, (text,), wanted)
            self.same(box_text(wanted), text)
        return wanted


class CardTextTest(StrictCase):
    def test_all_cards(self):
        for n in range(7):
            texts = []
            for card in range(2 ** n):
                self.check(card_text, (n, card), digits_of(n, card) or "-")
                texts.append(card_text(n, card))
            self.assertEqual(len(set(texts)), 2 ** n)
            self.assertEqual({len(text) for text in texts}, {max(n, 1)})

    def test_edges(self):
        self.same(card_text(0, 0), "-")
        self.same([card_text(1, 0), card_text(1, 1)], ["0", "1"])
        self.same([card_text(3, 1), card_text(3, 4)], ["100", "001"])
        self.same([card_text(6, 0), card_text(6, 63), card_text(6, 32)], ["000000", "111111", "000001"])


class BoxTextTest(StrictCase):
    def test_many_boxes(self):
        texts = {}
        for box in many_boxes():
            self.check(box_text, (box,), wanted_box_text(box))
            texts.setdefault(box_text(box), set()).add(box)
        self.assertEqual({len(boxes) for boxes in texts.values()}, {1})

    def test_edges(self):
        self.same([box_text((0, ())), box_text((0, (0,)))], ["0: none", "0: -"])
        self.same([box_text((1, ())), box_text((1, (0, 1)))], ["1: none", "1: 0 1"])
        self.same([box_text((6, ())), box_text((6, (63,)))], ["6: none", "6: 111111"])
        self.same(box_text((2, (0, 1, 2, 3))), "2: 00 10 01 11")


def changed_text(text, chance):
    """One change: a character inserted, replaced or removed, words exchanged, doubled, removed or replaced."""
    words = text.split(" ")
    at, other = chance.randrange(len(words)), chance.randrange(len(words))
    place = chance.randrange(len(text) + 1)
    letter = chance.choice("01234567-:n \n x+")
    way = chance.randrange(7)
    if way == 0:
        return text[:place] + letter + text[place:]
    if way == 1:
        return text[:place] + letter + text[place + 1:]
    if way == 2:
        return text[:place] + text[place + 1:]
    if way == 3:
        words[at], words[other] = words[other], words[at]
    elif way == 4:
        words.insert(at, words[at])
    elif way == 5:
        del words[at]
    else:
        words[at] = chance.choice(["none", "-", "", "0", "1", "00", "11", "0:", "2:", "7:", "000", words[other]])
    return " ".join(words)


class ParseTest(TextCase):
    def test_texts_of_boxes(self):
        for box in many_boxes():
            self.check(parse_box, (box_text(box),), box)
            self.check(parse_box, (wanted_box_text(box),), box)

    def test_changed_texts(self):
        chance = random.Random(151)
        seen = set()
        for box in [box for box in many_boxes() if box[0] < 5]:
            for turn in range(24):
                text = wanted_box_text(box)
                for change in range(1 + turn % 2):
                    text = changed_text(text, chance)
                seen.add(self.judge(text)[0])
        self.assertEqual(seen, {0, 1, 2, 3, 4, "wrong"})

    def test_written_texts(self):
        for text, index in (
            ("", 0), (" ", 0), (" 2: 00", 0), ("2", 0), ("2 : 00", 0), ("7: none", 0), ("-1: none", 0), ("02: 00", 0),
            ("2:00", 0), ("2:: 00", 0), ("x: none", 0), (": 00", 0), ("2:\n00", 0), ("\n2: 00", 0), ("none", 0),
            ("2:", 1), ("0:", 1), ("6:", 1), ("2: ", 1), ("2:  00", 1), ("2: 0", 1), ("2: 000", 1), ("2: -", 1),
            ("0: 0", 1), ("0: ", 1), ("2: None", 1), ("2: none ", 2), ("2: none 00", 2), ("2: none none", 2),
            ("2: 00 none", 2), ("2: 00 00", 2), ("2: 10 00", 2), ("2: 01 10", 2), ("2: 00 ", 2), ("2: 00  10", 2),
            ("0: - -", 2), ("2: 00 10 01 11 11", 5), ("2: 00 10 01 11 ", 5), ("2: 00 2x", 2), ("2: 00\n10", 1),
            ("2: 00 10\n", 2), ("2: 0 00 none", 1), ("2: 10 00 x", 2), ("1: 0 1 0", 3), ("2: none\n", 1),
            ("0: none -", 2), ("9: 2", 0), ("10: none", 0), ("2: +0", 1), ("2: 0 0", 1), ("3: 000 00", 2),
        ):
            self.raises(BadText, {"index": index}, parse_box, text)
            self.same(wanted_read(text), ("wrong", index))
        for text, box in (
            ("0: none", (0, ())), ("0: -", (0, (0,))), ("1: 1", (1, (1,))), ("2: 10 01", (2, (1, 2))),
            ("6: 000001", (6, (32,))), ("6: none", (6, ())),
        ):
            self.check(parse_box, (text,), box)

    def test_values_that_are_not_texts(self):
        for value in OTHER_VALUES:
            if type(value) is str:
                self.judge(value)
            else:
                self.raises(BadText, {"index": None}, parse_box, value)
        for value in (["2: 00"], ("2:", "00"), {"2: 00": 1}, (2, (0,)), 2, True, None):
            self.raises(BadText, {"index": None}, parse_box, value)

    def test_long_texts(self):
        self.raises(BadText, {"index": 2}, parse_box, "1: 0" + " 0" * 900)
        self.raises(BadText, {"index": 0}, parse_box, " " * 2000)
        self.raises(BadText, {"index": 1}, parse_box, "6:" + " " * 1900)
        self.raises(BadText, {"index": 1}, parse_box, "6: " + "0" * 1900)

    def test_what_the_error_is(self):
        with self.assertRaises(BoxError) as caught:
            parse_box("2: 00 00")
        self.assertIsInstance(caught.exception, ValueError)
        self.assertNotIsInstance(caught.exception, LookupError)

    def test_all_short_texts(self):
        # Whatever is accepted is the text of the box that is returned.
        words = ["0:", "1:", "2:", "none", "-", "0", "1", "00", "10", "01", "11", "", "x"]
        for first in words:
            self.judge(first)
            for second in words:
                self.judge(first + " " + second)
                for third in words:
                    self.judge(first + " " + second + " " + third)


class ChangedDigitsTest(StrictCase):
    def boxes(self):
        return [box for n in range(3) for box in every_box(n)] + sample_boxes(rounds=1, seed=152)

    def words_of(self, box):
        return box_text(box).split(" ")[1:]

    def text_of(self, n, words):
        return " ".join([str(n) + ":", *words])

    def test_reversed_digits(self):
        for box in self.boxes():
            n, cards = box
            if cards:
                words = [word[::-1] for word in self.words_of(box)]
                text = self.text_of(n, sorted(words, key=lambda word: word[::-1]))
                self.same(parse_box(text), rename_switches(box, tuple(range(n))[::-1]))
                self.same(text, box_text(rename_switches(box, tuple(range(n))[::-1])))

    def test_exchanged_digits(self):
        for box in self.boxes():
            n, cards = box
            if cards:
                words = [word.translate(str.maketrans("01", "10")) for word in self.words_of(box)]
                text = self.text_of(n, words[::-1])
                self.same(parse_box(text), flip_switches(box, 2 ** n - 1))
                self.same(parse_box(text), wanted_flipped(box, 2 ** n - 1))

    def test_one_more_digit(self):
        for box in self.boxes():
            n, cards = box
            if cards and n < 6:
                for on in (False, True):
                    words = [word.replace("-", "") + ("1" if on else "0") for word in self.words_of(box)]
                    self.same(parse_box(self.text_of(n + 1, words)), add_fixed(box, on))
                    self.same(box_text(add_fixed(box, on)), self.text_of(n + 1, words))


if __name__ == "__main__":
    unittest.main()
