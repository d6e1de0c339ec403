"""The interface: every name that has been asked for is there, with its arguments."""

import importlib
import inspect
import unittest

FUNCTIONS = {
    "laddertexts": {"write_ladder": ["ladder"], "read_ladder": ["text"]},
    "bars": {"empty": [], "bar_of": ["entries"], "joined": ["one", "other"], "in_order": ["entries"]},
    "entrytexts": {"write_entries": ["entries"], "read_entries": ["text"], "write_bar": ["bar"]},
    "rolls": {"bars_of": ["ladder", "roll", "entries"], "rolled": ["ladder", "roll", "bars"],
              "between": ["entries", "one", "other"]},
    "covers": {"cover": ["ladder", "one", "other"], "bar_of_cover": ["ladder", "entries", "pieces"]},
    "changes": {"changes": ["ladder", "one", "other"]},
    "locks": {"read_locks": ["ladder", "text"]},
    "plans": {"plan": ["state", "goal", "low", "high"], "reach": ["state", "many", "low", "high"]},
    "deeds": {"words_of": ["row"]},
}
CLASSES = {
    ("ladders", "Ladder"): {
        "__init__": ["begin", "parts", "rows"], "begin": [], "parts": [], "rows": [], "rolls": [],
        "bar_at": ["roll", "moment"], "stretch": ["roll", "number"], "lesser": ["roll", "number"],
        "greater": ["roll", "number"], "is_open": ["moment"]},
    ("books", "Book"): {
        "__init__": ["sources"], "order": [], "put": ["source", "key", "moment", "value"], "take": ["source", "key"],
        "rank": ["order"], "counted": ["key"], "tells": ["key"], "entries": [], "copied": []},
    ("followers", "Follower"): {"__init__": ["ladder", "roll", "begin", "end"], "news": ["entries"]},
    ("locks", "Locks"): {
        "__init__": ["ladder"], "shut": ["roll", "number"], "open_bar": ["roll", "number"],
        "is_shut": ["roll", "number"], "held_by": ["moment"], "broken": ["one", "other"], "written": [], "copied": []},
    ("keepers", "Keeper"): {
        "__init__": ["ladder"], "give": ["entries"], "forget": ["level", "moment"], "floor": ["level"], "entries": [],
        "bar": ["roll", "number"], "bar_between": ["one", "other"], "sealed": []},
    ("houses", "House"): {
        "__init__": ["ladder", "sources"], "do": ["row"], "back": [], "bar": ["roll", "number"],
        "bar_between": ["one", "other"], "entries": [], "news": ["name"], "locks": []},
}


class Interface(unittest.TestCase):

    def takes(self, thing, names):
        rows = inspect.signature(thing).parameters.values()
        self.assertEqual([row.name for row in rows if row.name != "self"], names)
        for row in rows:
            self.assertEqual((row.kind, row.default), (row.POSITIONAL_OR_KEYWORD, row.empty))

    def test_functions(self):
        for module, functions in FUNCTIONS.items():
            for name, names in functions.items():
                self.takes(getattr(importlib.import_module(f"peakroll.{module}"), name), names)

    def test_classes(self):
        for (module, name), methods in CLASSES.items():
            kind = getattr(importlib.import_module(f"peakroll.{module}"), name)
            self.assertIs(type(kind), type)
            for method, names in methods.items():
                self.takes(getattr(kind, method), names)


if __name__ == "__main__":
    unittest.main()
