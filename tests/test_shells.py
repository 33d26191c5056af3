"""Point 16: commands on a deck, and their answers."""

import random
import unittest

from tests.deck_samples import DeckCase, any_edit, any_edits, call, chances, edited, start, state_of, wanted_counts
from tests.samples import (
    NOT_NUMBERS,
    OTHER_VALUES,
    digits_of,
    every_box,
    grown_boxes,
    sample_boxes,
    smooth_boxes,
    wanted_certificate,
    wanted_rough,
    wanted_shown,
    wanted_shown_certificate,
    wanted_solid,
)
from tests.test_texts import wanted_box_text

from cardboxes import errors
from cardboxes.decks import Deck, SmoothDeck
from cardboxes.shells import Shell


def text_of(n, card):
    return digits_of(n, card) or "-"


def texts_of(n, cards):
    return " ".join(text_of(n, card) for card in cards) or "none"


def command(n, edit):
    """The line that does this edit."""
    word, value = edit
    return word + " " + (text_of(n, value) if word in ("add", "remove") else str(value))


def boxes_up_to(n, rounds, seed):
    return [box for box in sample_boxes(rounds=rounds, seed=seed) if box[0] <= n]


def certificate_text(n, certificate):
    word, proof = certificate
    return word + " " + texts_of(n, proof if type(proof) is tuple else [proof])


def wanted_answers(box):
    """The answers to all queries, by the box alone."""
    n = box[0]
    rough = wanted_rough(box)
    answers = {
        "box": wanted_box_text(box),
        "counts": " ".join(str(count) for count in wanted_counts(box)),
        "shown": texts_of(n, wanted_shown(box)),
        "solid": texts_of(n, wanted_solid(box)),
        "smooth": "yes" if rough is None else "no " + text_of(n, rough),
    }
    for switches in range(2 ** n):
        answers["why " + text_of(n, switches)] = certificate_text(n, wanted_shown_certificate(box, switches))
        answers["base " + text_of(n, switches)] = certificate_text(n, wanted_certificate(box, switches))
    return answers


class ShellCase(DeckCase):
    def answers(self, deck, line, wanted):
        """The answer, and that the deck stays as it is."""
        before = state_of(deck)
        self.same(Shell(deck).execute(line), wanted, line)
        self.same(state_of(deck), before)

    def answers_all(self, shell, box):
        before = state_of(shell.deck)
        wanted = wanted_answers(box)
        self.same({line: shell.execute(line) for line in wanted}, wanted)
        self.same(state_of(shell.deck), before)


class EditCommandsTest(ShellCase):
    def test_commands_and_calls(self):
        for chance, box in chances(161, boxes_up_to(5, 2, 161)):
            deck, other = Deck(box), Deck(box)
            shell, boxes = Shell(deck), [box]
            for turn in range(14):
                if len(boxes) > 1 and chance.randrange(4) == 0:
                    boxes.pop()
                    line, version = "undo", other.undo()
                else:
                    edit = any_edit(boxes[-1], chance)
                    boxes.append(edited(boxes[-1], edit))
                    line, version = command(box[0], edit), call(other, edit)
                self.same(shell.execute(line), "ok " + str(len(boxes) - 1))
                self.same(version, len(boxes) - 1)
                self.same(deck.box(), boxes[-1])
            self.same([deck == other, deck.edits() == other.edits()], [True, True])
            self.same(state_of(deck), state_of(other))

    def test_the_very_deck(self):
        deck = Deck((2, (0, 1)))
        first, second = Shell(deck), Shell(deck)
        self.same(first.execute("add 11"), "ok 1")
        self.same(second.execute("box"), "2: 00 10 11")
        self.same(deck.flip(0), 2)
        self.same(first.execute("undo"), "ok 1")
        self.same(second.execute("undo"), "ok 0")
        self.same(deck.edits(), ())
        self.same(first.execute("undo"), "error NothingToUndo")

    def test_without_switches(self):
        shell = Shell(Deck((0, ())))
        lines = ["add -", "add -", "box", "why -", "base -", "shown"]
        lines += ["remove -", "remove -", "why -", "base -", "shown"]
        self.same([shell.execute(line) for line in lines], [
            "ok 1", "error Present", "0: -", "shown -", "solid -", "-",
            "ok 2", "error Absent", "missing -", "broken -", "none",
        ])
        lines = ("solid", "counts", "smooth", "flip 0", "press 0", "undo", "counts", "box")
        self.same([shell.execute(line) for line in lines], [
            "none", "0 0 0", "yes", "error NoSwitch", "error NoSwitch", "ok 1", "1 1 1", "0: -",
        ])

    def test_smooth_decks(self):
        for chance, box in chances(162, [box for box in smooth_boxes() if box[0] < 5]):
            deck = SmoothDeck(box)
            shell, boxes = Shell(deck), [box]
            for turn in range(4):
                edit = any_edit(boxes[-1], chance)
                after = edited(boxes[-1], edit)
                if wanted_rough(after) is None:
                    boxes.append(after)
                    self.same(shell.execute(command(box[0], edit)), "ok " + str(len(deck)))
                else:
                    self.answers(deck, command(box[0], edit), "error Rough")
                self.same(deck.box(), boxes[-1])


class QueriesTest(ShellCase):
    def test_present_box(self):
        for chance, box in chances(163, boxes_up_to(4, 2, 163)):
            deck = Deck(box)
            shell, other = Shell(deck), Shell(deck)
            self.answers_all(shell, box)
            for edit in any_edits(box, 4, chance)[0]:
                call(deck, edit)
                self.answers_all(shell, deck.box())
            self.answers_all(other, deck.box())

    def test_six_switches(self):
        chance = random.Random(164)
        for many in (0, 1, 4, 8):
            box = (6, tuple(sorted(chance.sample(range(64), many))))
            self.answers_all(Shell(Deck(box)), box)

    def test_all_small_boxes(self):
        for n in range(3):
            for box in every_box(n):
                self.answers_all(Shell(Deck(box)), box)

    def test_edits_and_undos(self):
        for chance, box in chances(165, boxes_up_to(4, 1, 165)):
            shell = Shell(Deck(box))
            boxes, told = [box], [self.told(shell, box)]
            for turn in range(10):
                if len(boxes) > 1 and chance.randrange(3) == 0:
                    boxes.pop()
                    told.pop()
                    self.same(shell.execute("undo"), "ok " + str(len(boxes) - 1))
                    self.same(self.told(shell, boxes[-1]), told[-1])
                else:
                    edit = any_edit(boxes[-1], chance)
                    boxes.append(edited(boxes[-1], edit))
                    self.same(shell.execute(command(box[0], edit)), "ok " + str(len(boxes) - 1))
                    told.append(self.told(shell, boxes[-1]))
                self.same(told[-1], wanted_answers(boxes[-1]))
                self.same(self.told(Shell(Deck(boxes[-1])), boxes[-1]), told[-1])
            while len(boxes) > 1:
                boxes.pop()
                told.pop()
                self.same(shell.execute("undo"), "ok " + str(len(boxes) - 1))
                self.same(self.told(shell, boxes[-1]), told[-1])

    def told(self, shell, box):
        return {line: shell.execute(line) for line in wanted_answers(box)}

    def test_written_answers(self):
        shell = Shell(Deck((3, (1, 2, 3, 4, 5, 6))))
        lines = ("box", "counts", "shown", "solid", "smooth", "why 110", "why 111", "base 100", "base 110")
        self.same([shell.execute(line) for line in lines], [
            "3: 100 010 110 001 101 011", "4 6 7", "000 100 010 110 001 101 011", "000 100 010 001", "no 110",
            "shown 001 100 010 110", "missing 000", "solid 010", "broken 000 111",
        ])


class ErrorAnswersTest(ShellCase):
    def wanted_answer(self, deck, edit):
        """What the same call on another deck answers, and whether it is an error."""
        other = start(type(deck), deck.box(version=0), deck.edits())
        try:
            return "ok " + str(call(other, edit))
        except (errors.BoxError, LookupError) as error:
            return "error " + type(error).__name__

    def test_every_edit(self):
        seen = set()
        decks = [Deck(box) for box in boxes_up_to(5, 0, 166)]
        decks += [SmoothDeck(box) for n in range(4) for box in grown_boxes(n, 2, 166)]
        for deck in decks:
            n = deck.box()[0]
            edits = [(word, card) for word in ("add", "remove") for card in range(2 ** n)]
            edits += [(word, switch) for word in ("flip", "press") for switch in (*range(n + 2), 10, 99)]
            for edit in edits:
                wanted = self.wanted_answer(deck, edit)
                seen.add(wanted)
                if wanted.startswith("error"):
                    self.answers(deck, command(n, edit), wanted)
                else:
                    self.same(Shell(deck).execute(command(n, edit)), wanted)
                    deck.undo()
            self.answers(deck, "undo", "error NothingToUndo")
        self.assertEqual(seen, {"ok 1", "error Present", "error Absent", "error NoSwitch", "error Rough"})

    def test_sixty_edits(self):
        for kind in (Deck, SmoothDeck):
            for box in ((1, (0,)), (2, (0, 1, 3)), (4, (0,))):
                deck = start(kind, box, [("flip", 0)] * 60)
                n = box[0]
                for word in ("add", "remove"):
                    for card in range(2 ** n):
                        self.answers(deck, command(n, (word, card)), "error TooManyEdits")
                for word in ("flip", "press"):
                    for switch in (0, n, 99):
                        self.answers(deck, command(n, (word, switch)), "error TooManyEdits")
                self.answers(deck, "add " + "1" * (n + 1), "unknown command")
                self.answers(deck, "flip 100", "unknown command")
                self.same(Shell(deck).execute("undo"), "ok 59")
                self.same(Shell(deck).execute("press 0"), "ok 60")

    def test_rough_comes_last(self):
        deck = SmoothDeck((2, (0,)))
        shell = Shell(deck)
        lines = ("add 11", "add 00", "remove 11", "add 10", "add 11", "remove 10", "smooth")
        self.same([shell.execute(line) for line in lines], [
            "error Rough", "error Present", "error Absent", "ok 1", "ok 2", "error Rough", "yes",
        ])


class UnknownCommandsTest(ShellCase):
    LINES = (
        "", " ", "  ", "\n", "box ", " box", "box\n", "\nbox", "Box", "BOX", "boxes", "box box", "box  ", "box 0",
        "counts 1", "shown 00", "solid 00", "smooth 00", "smooth yes", "undo 1", "undo ", " undo", "undo undo", "Undo",
        "redo", "help", "add", "remove", "flip", "press", "why", "base", "add ", "remove ", "flip ", "press ",
        "why ", "base ",
        "flip 00", "flip 01", "flip 007", "flip +1", "flip -1", "flip -0", "flip 1 ", "flip  1", " flip 1", "flip 1 1",
        "flip 100", "flip 1000", "flip x", "flip 1.0", "flip 0x1", "flip 1\n", "flip \n1", "flip 1_0", "flip -", "flip",
        "press 00", "press 01", "press +0", "press -1", "press 100", "press 0 0", "press  0", "press x", "Press 0",
        "edits", "changes 0", "changes", "len", "str", "attempt", "attempt []", "version", "edit", "addable",
        "removable", "none", "unknown command", "ok", "error", "undo\n", "shown\n", "smooth ",
        "add none", "why none", "base none",
    )

    def test_lines(self):
        for n in range(7):
            deck = Deck((n, (0,)))
            for line in self.LINES:
                self.answers(deck, line, "unknown command")

    def test_cards_of_a_wrong_form(self):
        for n in range(7):
            right = "0" * n or "-"
            wrong = ["0" * (n + 1), "1" * (n + 1), right + " ", " " + right, right + "\n", right + "-", right + right]
            wrong += [right + " " + right, "2" * max(n, 1), "x" * n, right + "x", "", "00000000", "0b1", "+" + right]
            if n > 0:
                short = "0" * (n - 1)
                wrong += ["-", short, "1" * (n - 1), short + "2", short + "-", short + " ", "-" * n]
            else:
                wrong += ["0", "1", "--"]
            deck = Deck((n, (0,)))
            for word in ("add", "remove", "why", "base"):
                for text in wrong:
                    self.answers(deck, word + " " + text, "unknown command")
                self.assertNotEqual(Shell(Deck((n, ()))).execute(word + " " + right), "unknown command")

    def test_all_numbers(self):
        deck = Deck((2, (0,)))
        for number in range(120):
            wanted = "unknown command" if number > 99 else "error NoSwitch"
            if number > 1:
                self.answers(deck, "flip " + str(number), wanted)
                self.answers(deck, "press " + str(number), wanted)
            self.answers(deck, "flip 0" + str(number), "unknown command")

    def test_values_that_are_not_texts(self):
        deck = Deck((2, (0, 1)))
        values = [value for value in OTHER_VALUES + NOT_NUMBERS if type(value) is not str]
        for value in (*values, ["box"], ("box",), ("add", "11"), ["undo"], {"box": "box"}, [["box"]], ("flip", 0)):
            self.answers(deck, value, "unknown command")

    def known_lines(self):
        """All commands on a deck of two switches."""
        found = ["box", "counts", "shown", "solid", "smooth", "undo"]
        for text in ("00", "10", "01", "11"):
            found += [word + " " + text for word in ("add", "remove", "why", "base")]
        return found + [word + " " + str(number) for word in ("flip", "press") for number in range(100)]

    def test_changed_lines(self):
        chance = random.Random(167)
        known = self.known_lines()
        seen = set()
        for turn in range(3000):
            line = chance.choice(known[:22]) if turn % 2 else chance.choice(known)
            at = chance.randrange(len(line) + 1)
            line = line[:at] + chance.choice(" \nxX01-") + line[at + chance.randrange(2):]
            deck = Deck((2, (0, 1)))
            answer = Shell(deck).execute(line)
            self.assertEqual(answer == "unknown command", line not in known, line)
            if line not in known:
                self.same(deck.edits(), ())
            seen.add(line in known)
        self.assertEqual(seen, {False, True})

    def test_long_lines(self):
        deck = Deck((2, (0, 1)))
        for line in ("x" * 2000, "add " + "0" * 1996, "flip " + "1" * 1995, " " * 2000, "box" + " " * 1997):
            self.answers(deck, line, "unknown command")


if __name__ == "__main__":
    unittest.main()
