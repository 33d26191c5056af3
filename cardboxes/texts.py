"""Texts of cards and boxes."""

from cardboxes.bounds import MAX_SWITCHES
from cardboxes.boxes import has_switch
from cardboxes.errors import BadText


def card_text(n, card):
    """Return the text of a card of n switches."""
    if n == 0:
        return "-"
    return "".join(["1" if has_switch(card, switch) else "0" for switch in range(n)])


def cards_text(n, cards):
    """Return the texts of the cards, or of sets of switches, with one space between two."""
    if len(cards) == 0:
        return "none"
    return " ".join([card_text(n, card) for card in cards])


def box_text(box):
    """Return the text of the box."""
    n, cards = box
    return f"{n}: {cards_text(n, cards)}"


def place_of(word, words):
    """Return the index of the word among the words, or None."""
    return words.index(word) if word in words else None


def read_card(n, word):
    """Return the card of n switches that has this text, or None."""
    return place_of(word, [card_text(n, card) for card in range(1 << n)])


def parse_box(text):
    """Return the box that has this text."""
    if not isinstance(text, str):
        raise BadText(None)
    words = text.split(" ")
    n = place_of(words[0], [f"{many}:" for many in range(MAX_SWITCHES + 1)])
    if n is None:
        raise BadText(0)
    if len(words) == 1:
        raise BadText(1)
    return (n, parse_cards(n, words[1:]))


def parse_cards(n, words):
    """Return the ascending tuple of the cards that have these texts, the words after word 0."""
    if words[0] == "none":
        if len(words) > 1:
            raise BadText(2)
        return ()
    cards = []
    for index, word in enumerate(words, start=1):
        card = read_card(n, word)
        if card is None or (len(cards) > 0 and card <= cards[-1]):
            raise BadText(index)
        cards.append(card)
    return tuple(cards)
