"""The names of the interface: where each is defined, and the names of its arguments."""

import importlib
import inspect
import unittest

NAMES = {
    "rooms": {"made_rooms": "thing", "is_rooms": "thing"},
    "forests": {"made_forest": "rooms forest", "is_forest": "rooms forest", "around_of": "rooms forest x",
                "beneath": "rooms forest x", "hung": "rooms forest x place"},
    "standings": {"standings": "rooms x y", "turned": "standing", "standing": "rooms forest x y"},
    "sayings": {"is_saying": "rooms saying", "contrary": "rooms saying", "about": "saying"},
    "books": {"made_book": "thing", "is_book": "thing", "let": "book x y", "keeps": "book forest",
              "broken": "book forest"},
    "links": {"linked": "book x y", "parts": "book lot"},
    "free": {"over": "book t part", "free": "book lot"},
    "solver": {"form": "book", "form_by": "book order", "barred": "book", "keepable": "book"},
    "papers": {"no_paper": "book"},
    "kernel": {"no_right": "book paper"},
    "tight": {"possible": "book x y", "tight": "book", "implies": "one two", "alike": "one two", "parting": "one two"},
    "follows": {"follows": "book clause", "against": "book clause", "why": "book clause"},
    "whose": {"binding": "book", "reasons": "book clause", "lean": "book"},
    "leastforms": {"least_right": "book forest"},
    "counts": {"count": "book", "nth": "book k", "number": "book forest"},
    "mending": {"mended": "book forest"},
    "deeds": {"hangs": "book forest deed", "after": "book forest deed", "deeds": "book forest"},
    "walks": {"walk": "book one two"},
    "journal": {"base_text": "forest", "open_text": "number hangs", "lay_text": "number forest", "shut_text": "number",
                "read_journal": "rooms text", "base_only": "rooms text"},
    "machine": {"made_yard": "rooms yard", "is_yard": "rooms yard", "new_yard": "rooms forest",
                "made_code": "rooms code", "step": "rooms yard row", "run": "rooms yard code", "off": "yard",
                "cut": "rooms yard code rows signs"},
    "crane": {"hang_code": "hangs", "deed_code": "book forest deed number", "walk_code": "book forest walk number",
              "lay": "rooms forest target", "lay_code": "rooms forest target number"},
    "opening": {"pace": "rooms yard", "opening_code": "rooms yard", "opened": "rooms yard",
                "healing_code": "book yard", "healed": "book yard", "tidied": "rooms yard", "done": "rooms yard",
                "rest_code": "book forest walk yard"},
    "worlds": {"made_world": "thing", "is_world": "thing", "rooms_of": "world"},
    "worldtexts": {"read_world": "text", "print_world": "world"},
    "readsaying": {"read_saying": "world text"},
    "sayingtexts": {"print_saying": "world saying"},
    "questiontexts": {"read_question": "world text", "print_question": "world question"},
    "answers": {"made_question": "rooms thing", "is_question": "rooms thing", "contrary_question": "rooms question",
                "answer": "book question", "answer_right": "book question thing"},
    "foresttexts": {"read_forest": "world text", "print_forest": "world forest"},
    "papertexts": {"read_paper": "world text", "print_paper": "world paper"},
    "answertexts": {"read_answer": "world text", "print_answer": "world answer"},
    "entrytexts": {"read_entry": "world text", "print_entry": "world entry", "read_entries": "world texts",
                   "print_entries": "world entries", "book_of": "world entries"},
    "desk": {"desk_of": "rows"},
}
CLASSES = {
    "kept": {"Kept": {"__init__": "rooms", "say": "saying", "strike": "index", "undo": "", "redo": "", "book": "",
                      "form": "", "barred": "", "looks": ""}},
    "desk": {"Desk": {"__init__": "world", "thing": "hand name doors", "say": "hand name saying", "back": "hand name",
                      "undo": "hand", "redo": "hand", "world": "", "entries": "", "book": "", "ask": "question",
                      "where": "x y", "whose": "", "whose_for": "clause", "row": "text", "text": ""}},
}


class Interface(unittest.TestCase):

    def test_each_name_is_defined_where_it_is_listed(self):
        for file, functions in NAMES.items():
            module = importlib.import_module("nestsay." + file)
            for name, told in functions.items():
                function = getattr(module, name)
                self.assertTrue(inspect.isfunction(function), name)
                self.assertEqual(function.__module__, "nestsay." + file)
                self.assertEqual(list(inspect.signature(function).parameters), told.split(), name)

    def test_each_method_is_defined_in_its_class(self):
        for file, classes in CLASSES.items():
            for name, methods in classes.items():
                made = getattr(importlib.import_module("nestsay." + file), name)
                self.assertTrue(inspect.isclass(made), name)
                self.assertEqual(made.__module__, "nestsay." + file)
                for method, told in methods.items():
                    self.assertTrue(inspect.isfunction(vars(made).get(method)), (name, method))
                    parameters = list(inspect.signature(vars(made)[method]).parameters)
                    self.assertEqual(parameters, ["self"] + told.split(), (name, method))
