import ast
import importlib
import inspect
import pathlib
import unittest
import warnings

FOLDER = pathlib.Path(__file__).resolve().parent.parent / "daycubes"

LIBRARY = {"heapq", "math", "itertools", "collections"}

CALLS_THAT_REACH_OUT = {"open", "input", "print", "eval", "exec", "hash", "id", "__import__"}

INTERFACE = {
    "errors": {
        "CubeError": None, "BadCubes": ["index"], "BadTurns": [], "BadFigures": [], "BadWidth": [], "BadRange": [],
        "BadNeeded": ["index"], "BadNumber": [], "TooMany": [], "BadSeen": ["index"], "BadWays": ["index"],
        "NotShown": [], "BadText": ["word"],
    },
    "sets": {"Set": ["cubes", "turns"]},
    "showing": {
        "shows": ["group", "number"], "how": ["group", "number"], "ways": ["group", "number"],
        "lacking": ["group", "number"],
    },
    "counting": {
        "all_shown": ["group", "width"], "count_shown": ["group", "width"],
        "first_missing": ["group", "low", "high", "width"], "shown_numbers": ["group", "low", "high", "width"],
    },
    "choosing": {
        "first_unshown": ["group", "needed"], "count_sets": ["needed", "cubes", "faces", "turns"],
        "list_sets": ["needed", "cubes", "faces", "turns"], "fewest_faces": ["needed", "cubes", "faces", "turns"],
        "fewest_cubes": ["needed", "most", "faces", "turns"],
    },
    "mending": {
        "gains": ["group", "needed"], "best_face": ["group", "needed"], "needless": ["group", "needed"],
        "lean": ["group", "needed"],
    },
    "told": {"fitting": ["cubes", "figures", "turns", "seen"]},
    "holders": {"Holder": ["group"]},
    "papers": {"paper": ["group", "number"], "right_paper": ["group", "number", "value"]},
    "great": {
        "great_count": ["group", "width"], "kth_shown": ["group", "width", "k"], "rank_shown": ["group", "number"],
    },
    "losses": {
        "first_apart": ["one", "other"], "first_beyond": ["one", "other"], "fewest_lost": ["group", "needed"],
        "most_spare": ["group", "needed"],
    },
    "plans": {
        "cheapest": ["group", "numbers"], "plan_paper": ["group", "numbers"],
        "effort_of": ["group", "numbers", "ways"], "shown_least": ["group", "numbers", "value"],
    },
    "texts": {"write": ["group"], "read": ["text"]},
}

# The arguments of the methods that the interface lists, beside the object itself.
METHODS = {
    ("sets", "Set"): {"__len__": [], "__eq__": ["other"]},
    ("holders", "Holder"): {"__len__": [], "show": ["number"], "undo": [], "redo": []},
}

PROPERTIES = {("sets", "Set"): ["cubes", "turns"], ("holders", "Holder"): ["group", "figures", "way", "effort"]}


def files():
    return sorted(FOLDER.glob("**/*.py"))


def parsed(path):
    with warnings.catch_warnings():
        warnings.simplefilter("error")
        return ast.parse(path.read_text(encoding="ascii"))


class Interface(unittest.TestCase):
    def test_each_name_is_defined_in_its_file(self):
        for name, listed in INTERFACE.items():
            body = parsed(FOLDER / (name + ".py")).body
            defined = {part.name for part in body if isinstance(part, (ast.FunctionDef, ast.ClassDef))}
            self.assertLessEqual(set(listed), defined)

    def test_each_takes_the_listed_arguments(self):
        for name, listed in INTERFACE.items():
            module = importlib.import_module("daycubes." + name)
            for word, arguments in listed.items():
                if arguments is not None:
                    self.assertEqual(list(inspect.signature(getattr(module, word)).parameters), arguments, word)

    def test_each_method_and_property_stands_in_its_class(self):
        for (name, word), listed in METHODS.items():
            inside = vars(getattr(importlib.import_module("daycubes." + name), word))
            for method, arguments in listed.items():
                self.assertEqual(list(inspect.signature(inside[method]).parameters)[1:], arguments, method)
            for told in PROPERTIES[(name, word)]:
                self.assertIsInstance(inside[told], property, told)


class NothingFromOutside(unittest.TestCase):
    def test_imports_no_clock_no_randomness_and_no_files(self):
        for path in files():
            for part in ast.walk(parsed(path)):
                self.assertNotIsInstance(part, ast.Import, path)
                if isinstance(part, ast.ImportFrom):
                    self.assertEqual(part.level, 0, path)
                    self.assertTrue(part.module.startswith("daycubes.") or part.module in LIBRARY, path)

    def test_calls_nothing_that_reaches_out(self):
        for path in files():
            names = {part.id for part in ast.walk(parsed(path)) if isinstance(part, ast.Name)}
            self.assertEqual(names & CALLS_THAT_REACH_OUT, set(), path)


if __name__ == "__main__":
    unittest.main()
