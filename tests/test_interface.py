"""The interface of DOC.md: its names, and the parameters of its functions and methods."""

import importlib
import inspect
import unittest

FUNCTIONS = {
    "boxes": {
        "is_box": "(value)", "box_error": "(value)", "opposite_box": "(box)", "card_distance": "(first, second)",
        "size_of": "(switches)",
    },
    "shown": {
        "patterns_of": "(box, switches)", "is_shown": "(box, switches)", "shown_sets": "(box)",
        "shown_certificate": "(box, switches)", "shown_holds": "(box, switches, value)",
    },
    "cubes": {
        "cube_cards": "(cube)", "bases_of": "(box, switches)", "is_solid": "(box, switches)", "solid_sets": "(box)",
        "solid_certificate": "(box, switches)", "solid_holds": "(box, switches, value)", "all_cubes": "(box)",
        "cube_counts": "(box)",
    },
    "smooth": {
        "is_smooth": "(box)", "rough_set": "(box)", "set_counts": "(box)", "shown_size": "(box)",
        "card_bound": "(n, size)",
    },
    "parts": {
        "hold_switch": "(box, switch, on)", "drop_switch": "(box, switch)", "edge_box": "(box, switch)",
        "project_to": "(box, switches)",
    },
    "changes": {
        "flip_switches": "(box, switches)", "rename_switches": "(box, order)", "add_fixed": "(box, on)",
        "add_free": "(box)", "product_box": "(first, second)",
    },
    "paths": {
        "steps_between": "(box, first, second)", "straight_path": "(box, first, second)",
        "path_holds": "(box, first, second, value)", "component_cards": "(box)",
    },
    "pressing": {
        "press_switch": "(box, switch)", "press_all": "(box, order)", "is_closed": "(box)",
        "shown_order": "(n, switches)", "solid_order": "(n, switches)",
    },
    "texts": {"card_text": "(n, card)", "box_text": "(box)", "parse_box": "(text)"},
}

METHODS = {
    ("decks", "Deck"): {
        "__init__": "(self, box)", "add": "(self, card)", "remove": "(self, card)", "flip": "(self, switch)",
        "press": "(self, switch)", "undo": "(self)", "attempt": "(self, edits)", "box": "(self, *, version=None)",
        "shown": "(self, *, version=None)", "solid": "(self, *, version=None)", "counts": "(self, *, version=None)",
        "edits": "(self)", "changes": "(self, number)", "__len__": "(self)", "__str__": "(self)",
        "__eq__": "(self, other)",
    },
    ("decks", "SmoothDeck"): {
        "__init__": "(self, box)", "add": "(self, card)", "remove": "(self, card)", "addable": "(self)",
        "removable": "(self)",
    },
    ("shells", "Shell"): {"__init__": "(self, deck)", "execute": "(self, line)"},
}


def module(name):
    return importlib.import_module("cardboxes." + name)


class InterfaceTest(unittest.TestCase):
    def test_functions(self):
        for name, functions in FUNCTIONS.items():
            for function, parameters in functions.items():
                self.assertEqual(str(inspect.signature(getattr(module(name), function))), parameters, function)

    def test_methods_stand_in_the_class_itself(self):
        for (name, title), methods in METHODS.items():
            own = vars(getattr(module(name), title))
            for method, parameters in methods.items():
                self.assertIn(method, own, title)
                self.assertEqual(str(inspect.signature(own[method])), parameters, (title, method))

    def test_numbers(self):
        for name in ("MAX_SWITCHES", "MAX_EDITS", "BATCH"):
            self.assertIs(type(getattr(module("bounds"), name)), int)


if __name__ == "__main__":
    unittest.main()
