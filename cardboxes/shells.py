"""The shell: a deck that is edited and asked by commands, which are texts."""

from cardboxes.cubes import solid_certificate
from cardboxes.errors import Absent, NoSwitch, NothingToUndo, Present, Rough, TooManyEdits
from cardboxes.shown import shown_certificate
from cardboxes.smooth import rough_set
from cardboxes.texts import box_text, card_text, cards_text, place_of, read_card

UNKNOWN = "unknown command"


def edit_answer(deck, word, value):
    """Do the edit, or undo the last one, and answer with the new version or the name of the error."""
    try:
        version = deck.undo() if word == "undo" else deck.edit(word, value)
    except TooManyEdits:
        return "error TooManyEdits"
    except Present:
        return "error Present"
    except Absent:
        return "error Absent"
    except NoSwitch:
        return "error NoSwitch"
    except NothingToUndo:
        return "error NothingToUndo"
    except Rough:
        return "error Rough"
    return f"ok {version}"


def smooth_answer(box):
    """Answer whether the box is smooth."""
    switches = rough_set(box)
    return "yes" if switches is None else f"no {card_text(box[0], switches)}"


def certificate_answer(n, certificate):
    """Answer with the word of a certificate and the texts of its cards, its pattern or its base."""
    word, proof = certificate
    cards = proof if isinstance(proof, tuple) else (proof,)
    return f"{word} {cards_text(n, cards)}"


def single_answer(deck, word):
    """Answer a command of one word."""
    box = deck.box()
    if word == "undo":
        return edit_answer(deck, word, None)
    if word == "box":
        return box_text(box)
    if word == "counts":
        return " ".join([str(count) for count in deck.counts()])
    if word == "shown":
        return cards_text(box[0], deck.shown())
    if word == "solid":
        return cards_text(box[0], deck.solid())
    if word == "smooth":
        return smooth_answer(box)
    return UNKNOWN


def switch_answer(deck, word, text):
    """Answer a command with a number from 0 to 99."""
    switch = place_of(text, [str(number) for number in range(100)])
    return UNKNOWN if switch is None else edit_answer(deck, word, switch)


def card_answer(deck, word, text):
    """Answer a command with the text of a card, or of a set of switches."""
    box = deck.box()
    card = read_card(box[0], text)
    if card is None:
        return UNKNOWN
    if word == "why":
        return certificate_answer(box[0], shown_certificate(box, card))
    if word == "base":
        return certificate_answer(box[0], solid_certificate(box, card))
    return edit_answer(deck, word, card)


class Shell:
    """Commands on one deck."""

    def __init__(self, deck):
        self.deck = deck

    def execute(self, line):
        """Carry out the command and return its answer."""
        if not isinstance(line, str):
            return UNKNOWN
        word, *rest = line.split(" ")
        if len(rest) == 0:
            return single_answer(self.deck, word)
        if len(rest) == 1 and word in ("flip", "press"):
            return switch_answer(self.deck, word, rest[0])
        if len(rest) == 1 and word in ("add", "remove", "why", "base"):
            return card_answer(self.deck, word, rest[0])
        return UNKNOWN
