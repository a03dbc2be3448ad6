"""Point 1 and the interface: what holds of the whole package."""

import ast
import copy
import importlib
import inspect
import pathlib
import unittest

from tests import helper
from twinpurse import facts, fans, lots, programs, questions, reach, roads, runs, tables, texts
from twinpurse.errors import BadArgument, BadProgram, BadStanding

FOLDER = pathlib.Path(__file__).resolve().parent.parent / "twinpurse"
INTERFACE = {
    "errors": {name: None for name in (
        "TwinpurseError", "BadProgram", "BadStanding", "BadFan", "BadRoad", "BadArgument", "BadText", "TooLarge",
        "BadLine",
    )},
    "programs": {"check_program": ["program"], "check_standing": ["program", "standing"], "turned": ["program"]},
    "runs": {
        "make": ["program", "standing", "move"], "play": ["program", "standing", "word"],
        "able": ["program", "standing"], "effect": ["program", "word"], "is_walk": ["program", "word"],
        "is_ring": ["program", "word"], "need": ["program", "word"],
    },
    "fans": {
        "check_fan": ["fan"], "check_lot": ["lot"], "standing_at": ["fan", "counts"],
        "counts_of": ["fan", "standing"], "has": ["lot", "standing"],
    },
    "roads": {
        "is_road": ["program", "start", "fan", "road"], "spell": ["road", "counts"],
        "ride": ["program", "start", "road", "counts"],
    },
    "tables": {
        "is_tree": ["program", "lot", "fan", "move", "tree"], "is_table": ["program", "lot", "table"],
        "is_paper": ["program", "start", "paper"], "leaf_of": ["tree", "counts"],
    },
    "reach": {
        "reach": ["program", "start"], "way": ["program", "start", "standing"], "sources": ["program", "goal"],
    },
    "lots": {
        "union": ["lot", "other"], "share": ["lot", "other"], "without": ["lot", "other"], "lack": ["lot", "rooms"],
        "least": ["lot"], "within": ["lot", "other"], "alike": ["lot", "other"], "number": ["lot"],
    },
    "questions": {
        "check_question": ["question"], "holds": ["question", "standing"], "answers": ["lot", "question"],
        "every": ["lot", "question"],
    },
    "facts": {
        "stuck": ["program", "start"], "home": ["program", "start"], "greatest": ["program", "start"],
        "differ": ["program", "start", "other", "other_start"], "endless": ["program", "start"],
        "is_lasso": ["program", "start", "lasso"],
    },
    "texts": {
        "format_program": ["program"], "format_standing": ["standing"], "format_lot": ["lot"],
        "format_question": ["question"], "parse_program": ["text"], "parse_standing": ["text"], "parse_lot": ["text"],
        "parse_question": ["text"],
    },
}
CLASSES = {("desk", "Desk"): {"__init__": ["self"], "do": ["self", "line"]}}
# What a module may import from beside the package: nothing of it knows a clock, chance or files.
LIBRARY = {"heapq", "math", "itertools", "collections"}
BUILTINS_THAT_REACH_OUT = {"open", "input", "print", "eval", "exec", "compile", "__import__", "globals"}


def files():
    return sorted(FOLDER.rglob("*.py"))


def is_plain(value):
    if type(value) in (list, tuple):
        return all(is_plain(part) for part in value)
    if type(value) is dict:
        return all(is_plain(part) for pair in value.items() for part in pair)
    return value is None or type(value) in (int, str, bool)


def spoil_lists(value):
    """Change all lists in a value; tell whether there are some."""
    spoilt = False
    if isinstance(value, (list, tuple)):
        spoilt = any([spoil_lists(part) for part in value])
    if isinstance(value, list):
        value.append(None)
        value[0] = None
        return True
    return spoilt


def calls():
    """Calls of all functions that return something, each with arguments of its own."""
    pair, fan = helper.PAIR, (2, (1, 2), ((2, 1), (1, 3)))
    other, road, tree = (2, (0, 2), ((1, 0),)), (("ring", (0, 1), (1, 2)), ("walk", (0,))), ("out",)
    counter, paper = helper.COUNTER, reach.reach(helper.COUNTER, (0, 1, 2))
    return [
        (programs.check_program, [pair]), (programs.check_standing, [pair, (0, 1, 2)]), (programs.turned, [pair]),
        (runs.make, [pair, (0, 3, 5), 0]), (runs.make, [pair, (0, 3, 5), 1]), (runs.play, [pair, (0, 3, 5), (0, 1)]),
        (runs.play, [pair, (0, 3, 5), ()]), (runs.play, [pair, (0, 3, 5), (0, 0)]), (runs.able, [pair, (1, 0, 0)]),
        (runs.effect, [pair, (0, 0)]), (runs.is_walk, [pair, (0, 1)]), (runs.is_ring, [pair, (0, 1)]),
        (runs.need, [pair, (0, 1)]), (runs.need, [pair, (3, 4, 0)]), (runs.need, [pair, (3, 1, 0, 3)]),
        (fans.check_fan, [fan]), (fans.check_lot, [[fan, fan]]), (fans.standing_at, [fan, (5, 1)]),
        (fans.counts_of, [fan, (2, 12, 10)]), (fans.counts_of, [fan, (2, 0, 0)]),
        (fans.has, [[fan, fan], (2, 12, 10)]), (fans.has, [[], (2, 12, 10)]),
        (roads.is_road, [pair, (0, 1, 2), (1, (3, 0), ((2, 0),)), road]), (roads.is_road, [pair, (0, 1, 2), fan, [1]]),
        (roads.spell, [road, (3,)]), (roads.ride, [pair, (0, 1, 9), road, (10 ** 9,)]),
        (tables.is_tree, [pair, [fan], (1, (1, 2), ((2, 1),)), 3, tree]), (tables.leaf_of, [tree, (1, 2)]),
        (tables.is_table, [counter, paper[0], paper[2]]), (tables.is_paper, [counter, (0, 1, 2), paper]),
        (tables.is_paper, [counter, (0, 1, 2), [paper]]), (reach.reach, [pair, (0, 1, 2)]),
        (reach.reach, [counter, (0, 1, 2)]), (reach.way, [counter, (0, 1, 2), (0, 0, 2)]),
        (reach.way, [counter, (0, 1, 2), (0, 10 ** 9, 0)]), (reach.sources, [counter, (0, 1, 2)]),
        (lots.union, [[other], [other, (0, (1, 1), ())]]), (lots.share, [[other], [other]]), (lots.lack, [[other], 3]),
        (lots.without, [[other], [(2, (3, 2), ())]]), (lots.least, [[other]]), (lots.least, [[]]),
        (lots.within, [[other], []]), (lots.alike, [[other], [other]]), (lots.number, [[other]]),
        (lots.number, [[(2, (3, 2), ())]]),
    ] + later_calls()


def later_calls():
    pair, counter, ends = helper.PAIR, helper.COUNTER, (2, ((0, 0, -1, 1), (0, 1, 0, -1)), ((1, 0),))
    lot, asked = [(2, (0, 2), ((1, 0),)), (0, (1, 1), ())], ("and", ("not", ("rest", 1, 0, 2, 1)), ("most", 1, -2, 7))
    lasso = ((), (0, 1, 2), (("ring", (0,), (2,)),))
    return [
        (questions.check_question, [asked]), (questions.holds, [asked, (0, 1, 2)]), (questions.answers, [lot, asked]),
        (questions.answers, [lot, ("not", asked)]), (questions.answers, [[], asked]), (questions.every, [lot, asked]),
        (questions.every, [lot, ("most", -1, -1, 0)]), (facts.stuck, [ends, (0, 2, 0)]), (facts.stuck, [counter, (0,
        1, 2)]),
        (facts.home, [ends, (0, 2, 0)]), (facts.home, [counter, (0, 1, 2)]), (facts.greatest, [ends, (0, 2, 0)]),
        (facts.greatest, [counter, (0, 1, 2)]), (facts.differ, [pair, (0, 1, 2), counter, (0, 1, 2)]),
        (facts.differ, [pair, (0, 1, 2), pair, (0, 1, 2)]), (facts.endless, [ends, (0, 2, 0)]),
        (facts.endless, [counter, (0, 1, 2)]), (facts.is_lasso, [counter, (0, 1, 2), lasso]),
        (facts.is_lasso, [counter, (0, 1, 2), [lasso]]), (texts.format_program, [pair]),
        (texts.format_standing, [(2, 3, 4)]), (texts.format_lot, [lot]), (texts.format_lot, [[]]),
        (texts.format_question, [asked]), (texts.parse_program, ["rooms 1; 0>0 1 1"]), (texts.parse_standing,
        ["0 1 2"]),
        (texts.parse_lot, ["0 1 2; 3 4 | 1 0 0"]), (texts.parse_lot, ["none"]), (texts.parse_question, ["not room 1"]),
    ]


class Interface(unittest.TestCase):
    def test_names_and_arguments(self):
        for module, names in INTERFACE.items():
            found = importlib.import_module("twinpurse." + module)
            for name, arguments in names.items():
                with self.subTest(module + "." + name):
                    told = getattr(found, name)
                    self.assertEqual(told.__module__, "twinpurse." + module)
                    if arguments is None:
                        self.assertTrue(inspect.isclass(told))
                    else:
                        self.assertEqual(list(inspect.signature(told).parameters), arguments)


    def test_classes(self):
        for (module, name), methods in CLASSES.items():
            told = getattr(importlib.import_module("twinpurse." + module), name)
            self.assertEqual(told.__module__, "twinpurse." + module)
            for method, arguments in methods.items():
                self.assertEqual(list(inspect.signature(vars(told)[method]).parameters), arguments)

    def test_errors_stand_side_by_side(self):
        found = importlib.import_module("twinpurse.errors")
        for name in INTERFACE["errors"]:
            self.assertIs(getattr(found, name).__bases__[0],
                          ValueError if name == "TwinpurseError" else found.TwinpurseError)
            self.assertEqual(len(getattr(found, name).__bases__), 1)


class Behaviour(unittest.TestCase):
    def test_arguments_stay_as_they_are(self):
        for called, arguments in calls():
            kept = copy.deepcopy(arguments)
            called(*arguments)
            self.assertEqual(arguments, kept, called)

    def test_lists_that_are_returned_are_not_shared(self):
        for called, arguments in calls():
            told = called(*arguments)
            wanted = copy.deepcopy(told)
            if spoil_lists(told):
                self.assertEqual(called(*arguments), wanted, called)

    def test_what_is_returned_is_plain(self):
        for called, arguments in calls():
            self.assertTrue(is_plain(called(*arguments)), called)

    def test_the_same_call_gives_the_same_and_a_new_list(self):
        for called, arguments in calls():
            first, second = called(*arguments), called(*arguments)
            self.assertEqual(first, second)
            if isinstance(first, list):
                self.assertIsNot(first, second)

    def test_no_purse_comes_below_none(self):
        for program in helper.PROGRAMS:
            for move in range(len(program[1]) + len(program[2])):
                for standing in ((room, a, b) for room in range(program[0]) for a in range(3) for b in range(3)):
                    for led in (runs.make(program, standing, move), runs.play(program, standing, (move,))):
                        self.assertTrue(led is None or min(led[1:]) >= 0)

    def test_true_and_false_are_not_integers(self):
        with self.assertRaises(BadProgram):
            programs.check_program((True, (), ()))
        with self.assertRaises(BadStanding):
            programs.check_standing(helper.PAIR, (True, 0, 0))
        with self.assertRaises(BadArgument):
            runs.make(helper.PAIR, (1, 0, 0), True)
        with self.assertRaises(BadArgument):
            fans.standing_at((0, (0, 0), ((1, 1),)), (True,))

    def test_many_calls_in_a_row(self):
        standing = (0, 0, 10 ** 30)
        for _ in range(20000):
            standing = runs.make(helper.PAIR, standing, 0)
            standing = runs.make(helper.PAIR, standing, 1)
        self.assertEqual(standing, (0, 20000, 10 ** 30))


class Sources(unittest.TestCase):
    def test_imports(self):
        for file in files():
            for node in ast.walk(ast.parse(file.read_text())):
                if isinstance(node, ast.Import):
                    self.assertEqual([part.name for part in node.names], ["sys"], file)
                    self.assertEqual(file.name, "__main__.py")
                if isinstance(node, ast.ImportFrom):
                    self.assertEqual(node.level, 0, file)
                    self.assertTrue(node.module.startswith("twinpurse.") or node.module in LIBRARY, file)

    def test_nothing_reaches_out(self):
        for file in files():
            for node in ast.walk(ast.parse(file.read_text())):
                if isinstance(node, ast.Name):
                    self.assertNotIn(node.id, BUILTINS_THAT_REACH_OUT, file)

    def test_sizes_and_signs(self):
        for file in files():
            lines = file.read_text().splitlines()
            self.assertLessEqual(len(lines), 399, file)
            for line in lines:
                self.assertLessEqual(len(line), 120, (file, line))
                self.assertTrue(all(" " <= sign <= "~" for sign in line), (file, line))
            for node in ast.walk(ast.parse(file.read_text())):
                if isinstance(node, ast.FunctionDef):
                    self.assertLessEqual(node.end_lineno - node.lineno + 1, 40, (file, node.name))


if __name__ == "__main__":
    unittest.main()
