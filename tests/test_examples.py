"""The examples of DOC.md, point by point, as Python sessions."""

import unittest

from cardboxes.errors import BoxError

EXAMPLES_4 = """
>>> from cardboxes.boxes import is_box
>>> [is_box((2, (0, 1, 3))), is_box((2, (0, 4))), is_box((2, (0, True)))]
[True, False, False]

>>> from cardboxes.boxes import box_error
>>> box_error((2, (1, 0)))
(1, 'order')

>>> from cardboxes.boxes import opposite_box
>>> opposite_box((2, (0, 1, 3)))
(2, (2,))

>>> from cardboxes.boxes import card_distance
>>> card_distance(1, 6)
3

>>> from cardboxes.boxes import size_of
>>> size_of(6)
2
"""

EXAMPLES_5 = """
>>> from cardboxes.shown import patterns_of
>>> patterns_of((2, (0, 1, 3)), 3)
(0, 1, 3)

>>> from cardboxes.shown import is_shown
>>> [is_shown((2, (0, 1, 3)), 1), is_shown((2, (0, 1, 3)), 3)]
[True, False]

>>> from cardboxes.shown import shown_sets
>>> box = (3, (1, 2, 3, 4, 5, 6))
>>> shown_sets(box)
(0, 1, 2, 3, 4, 5, 6)

>>> from cardboxes.shown import shown_certificate
>>> box = (2, (0, 1, 3))
>>> [shown_certificate(box, 1), shown_certificate(box, 3)]
[('shown', (0, 1)), ('missing', 2)]

>>> from cardboxes.shown import shown_holds
>>> box = (2, (0, 1, 3))
>>> [shown_holds(box, 1, ('shown', (0, 3))), shown_holds(box, 1, ('missing', 0))]
[True, False]
"""

EXAMPLES_6 = """
>>> from cardboxes.cubes import cube_cards
>>> cube_cards((4, 3))
(4, 5, 6, 7)

>>> from cardboxes.cubes import bases_of
>>> box = (2, (0, 1, 3))
>>> [bases_of(box, 1), bases_of(box, 2), bases_of(box, 3)]
[(0,), (1,), ()]

>>> from cardboxes.cubes import is_solid
>>> is_solid((2, (0, 1, 3)), 2)
True

>>> from cardboxes.cubes import solid_sets
>>> box = (3, (1, 2, 3, 4, 5, 6))
>>> solid_sets(box)
(0, 1, 2, 4)

>>> from cardboxes.cubes import solid_certificate
>>> box = (2, (0, 1, 3))
>>> [solid_certificate(box, 2), solid_certificate(box, 3)]
[('solid', 1), ('broken', (2,))]

>>> from cardboxes.cubes import solid_holds
>>> box = (2, (0, 1, 3))
>>> [solid_holds(box, 3, ('broken', (2,))), solid_holds(box, 3, ('broken', (1,)))]
[True, False]

>>> from cardboxes.cubes import all_cubes
>>> all_cubes((2, (0, 1, 3)))
((0, 0), (0, 1), (1, 0), (1, 2), (3, 0))

>>> from cardboxes.cubes import cube_counts
>>> cube_counts((2, (0, 1, 3)))
(3, 2, 0)
"""

EXAMPLES_7 = """
>>> from cardboxes.smooth import is_smooth
>>> [is_smooth((2, (0, 1, 3))), is_smooth((2, (0, 3)))]
[True, False]

>>> from cardboxes.smooth import rough_set
>>> box = (3, (1, 2, 3, 4, 5, 6))
>>> rough_set(box)
3

>>> from cardboxes.smooth import set_counts
>>> box = (3, (1, 2, 3, 4, 5, 6))
>>> set_counts(box)
(4, 6, 7)

>>> from cardboxes.smooth import shown_size
>>> box = (3, (1, 2, 3, 4, 5, 6))
>>> shown_size(box)
2

>>> from cardboxes.smooth import card_bound
>>> card_bound(3, 2)
7
"""

EXAMPLES_8 = """
>>> from cardboxes.parts import hold_switch
>>> box = (2, (0, 1, 3))
>>> [hold_switch(box, 0, True), hold_switch(box, 0, False)]
[(1, (0, 1)), (1, (0,))]

>>> from cardboxes.parts import drop_switch
>>> drop_switch((2, (0, 1, 3)), 0)
(1, (0, 1))

>>> from cardboxes.parts import edge_box
>>> edge_box((2, (0, 1, 3)), 0)
(1, (0,))

>>> from cardboxes.parts import project_to
>>> box = (3, (1, 2, 3, 4, 5, 6))
>>> project_to(box, 3)
(2, (0, 1, 2, 3))
"""

EXAMPLES_9 = """
>>> from cardboxes.changes import flip_switches
>>> flip_switches((2, (0, 1, 3)), 1)
(2, (0, 1, 2))

>>> from cardboxes.changes import rename_switches
>>> rename_switches((3, (1,)), (1, 2, 0))
(3, (4,))

>>> from cardboxes.changes import add_fixed
>>> add_fixed((2, (0, 1, 3)), True)
(3, (4, 5, 7))

>>> from cardboxes.changes import add_free
>>> add_free((1, (0,)))
(2, (0, 2))

>>> from cardboxes.changes import product_box
>>> product_box((1, (1,)), (2, (0, 1, 3)))
(3, (1, 3, 7))
"""

EXAMPLES_10 = """
>>> from cardboxes.paths import steps_between
>>> box = (3, (1, 2, 3, 4, 5, 6))
>>> [steps_between(box, 1, 6), steps_between((2, (0, 3)), 0, 3)]
[3, None]

>>> from cardboxes.paths import straight_path
>>> straight_path((2, (0, 1, 3)), 0, 3)
(0, 1, 3)

>>> from cardboxes.paths import path_holds
>>> box = (2, (0, 1, 3))
>>> [path_holds(box, 0, 3, (0, 1, 3)), path_holds(box, 0, 3, (0, 3))]
[True, False]

>>> from cardboxes.paths import component_cards
>>> component_cards((2, (0, 3)))
((0,), (3,))
"""

EXAMPLES_11 = """
>>> from cardboxes.pressing import press_switch
>>> [press_switch((2, (2, 3)), 1), press_switch((2, (0, 1, 3)), 1)]
[(2, (0, 1)), (2, (0, 1, 3))]

>>> from cardboxes.pressing import press_all
>>> box = (3, (1, 2, 3, 4, 5, 6))
>>> press_all(box, (0, 1, 2))
(3, (0, 1, 2, 4, 5, 6))

>>> from cardboxes.pressing import is_closed
>>> [is_closed((2, (0, 1))), is_closed((2, (0, 3)))]
[True, False]

>>> from cardboxes.pressing import shown_order
>>> shown_order(3, 3)
(2, 0, 1)

>>> from cardboxes.pressing import solid_order
>>> solid_order(3, 4)
(2, 0, 1)
"""

EXAMPLES_12 = """
>>> from cardboxes.decks import Deck
>>> str(Deck((2, (0, 1, 3))))
'2 switches, 3 cards, 0 edits'

>>> from cardboxes.decks import Deck
>>> deck = Deck((2, (0, 1)))
>>> deck.add(1)
raises Present(1)

>>> from cardboxes.decks import Deck
>>> deck = Deck((2, (2, 3)))
>>> [deck.press(1), deck.box()]
[1, (2, (0, 1))]

>>> from cardboxes.decks import Deck
>>> deck = Deck((2, (0, 1)))
>>> [deck.add(3), deck.undo(), deck.box()]
[1, 0, (2, (0, 1))]

>>> from cardboxes.decks import Deck
>>> deck = Deck((2, (0,)))
>>> deck.attempt([('add', 1), ('add', 1)])
raises Rejected(1)
"""

EXAMPLES_13 = """
>>> from cardboxes.decks import Deck
>>> deck = Deck((2, (0, 1)))
>>> [deck.remove(1), deck.box(), deck.box(version=0)]
[1, (2, (0,)), (2, (0, 1))]

>>> from cardboxes.decks import Deck
>>> deck = Deck((2, (0, 3)))
>>> [deck.shown(), deck.solid(), deck.counts()]
[(0, 1, 2), (0,), (1, 2, 3)]

>>> from cardboxes.decks import Deck
>>> deck = Deck((2, (0,)))
>>> [deck.flip(1), deck.edits()]
[1, (('flip', 1),)]

>>> from cardboxes.decks import Deck
>>> deck = Deck((2, (0, 1)))
>>> [deck.add(3), deck.changes(0)]
[1, ((2,), (), (2,), ())]

>>> from cardboxes.decks import Deck
>>> [len(Deck((0, ()))), Deck((1, (0,))) == Deck((1, (0,)))]
[0, True]
"""

EXAMPLES_14 = """
>>> from cardboxes.decks import SmoothDeck
>>> deck = SmoothDeck((2, (0,)))
>>> deck.add(3)
raises Rough(1)

>>> from cardboxes.decks import SmoothDeck
>>> deck = SmoothDeck((2, (0, 1, 3)))
>>> [deck.addable(), deck.removable()]
[(2,), (0, 3)]
"""

EXAMPLES_15 = """
>>> from cardboxes.texts import card_text
>>> card_text(3, 6)
'011'

>>> from cardboxes.texts import box_text
>>> [box_text((2, (0, 1, 3))), box_text((0, (0,))), box_text((1, ()))]
['2: 00 10 11', '0: -', '1: none']

>>> from cardboxes.texts import parse_box
>>> parse_box('2: 00 00')
raises BadText(2)
"""

EXAMPLES_16 = """
>>> from cardboxes.decks import Deck
>>> from cardboxes.shells import Shell
>>> shell = Shell(Deck((2, (0, 1))))
>>> shell.execute('box')
'2: 00 10'

>>> from cardboxes.decks import Deck
>>> from cardboxes.shells import Shell
>>> shell = Shell(Deck((2, (0, 3))))
>>> [shell.execute('smooth'), shell.execute('why 11'), shell.execute('add 10'), shell.execute('add 10'), shell.execute('smooth')]
['no 10', 'missing 10', 'ok 1', 'error Present', 'yes']
"""


def session_result(session):
    """Run the lines of one session and return the repr of its last expression, or the error that it raises."""
    *lines, last = [line[4:] for line in session.splitlines() if line.startswith(">>> ")]
    names = {}
    for line in lines:
        exec(line, names)
    try:
        return repr(eval(last, names))
    except (BoxError, LookupError) as error:
        fields = ", ".join(repr(value) for value in vars(error).values())
        return f"raises {type(error).__name__}({fields})"


class ExamplesTest(unittest.TestCase):
    def run_sessions(self, text, many):
        sessions = text.strip().split("\n\n")
        self.assertEqual(len(sessions), many)
        for session in sessions:
            self.assertEqual(session_result(session), session.splitlines()[-1], session)

    def test_point_4(self):
        self.run_sessions(EXAMPLES_4, 5)

    def test_point_5(self):
        self.run_sessions(EXAMPLES_5, 5)

    def test_point_6(self):
        self.run_sessions(EXAMPLES_6, 8)

    def test_point_7(self):
        self.run_sessions(EXAMPLES_7, 5)

    def test_point_8(self):
        self.run_sessions(EXAMPLES_8, 4)

    def test_point_9(self):
        self.run_sessions(EXAMPLES_9, 5)

    def test_point_10(self):
        self.run_sessions(EXAMPLES_10, 4)

    def test_point_11(self):
        self.run_sessions(EXAMPLES_11, 5)

    def test_point_12(self):
        self.run_sessions(EXAMPLES_12, 5)

    def test_point_13(self):
        self.run_sessions(EXAMPLES_13, 5)

    def test_point_14(self):
        self.run_sessions(EXAMPLES_14, 2)

    def test_point_15(self):
        self.run_sessions(EXAMPLES_15, 3)

    def test_point_16(self):
        self.run_sessions(EXAMPLES_16, 2)


if __name__ == "__main__":
    unittest.main()
