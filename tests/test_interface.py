"""Names, places and arguments of the interface; point 0.4; point 2 on arguments and returned lists; README."""

import copy
import importlib
import inspect
import itertools
import unittest
from pathlib import Path

from hiddensorts.apart import told_apart
from hiddensorts.giving import given_world, row_bend
from hiddensorts.making import made_by_parts, zeros
from hiddensorts.matrices import first_rows, inverse, multiply, positive, rank, turned
from hiddensorts.parts import part
from hiddensorts.ratios import as_ratio, greatest, least, plus, total
from hiddensorts.sights import Sights
from hiddensorts.tables import Table
from hiddensorts.walks import along
from hiddensorts.webs import Web
from hiddensorts.worlds import World
from tests.tools import random_world

ROOT = Path(__file__).resolve().parent.parent

FUNCTIONS = {
    "ratios": {"is_int": "value", "as_ratio": "value", "plus": "a b", "minus": "a b", "times": "a b",
               "negative": "a", "over": "a b", "sign_of": "a", "below": "a b", "total": "numbers", "least": "numbers",
               "greatest": "numbers", "root_of": "a", "shown": "a", "ratio_of": "text"},
    "matrices": {"first_rows": "m", "rank": "m", "turned": "m", "multiply": "m n", "inverse": "m", "positive": "m"},
    "lots": {"sizes_of": "value", "lot_of": "value many", "asking_of": "value many", "spot_of": "value sizes",
             "rows_in_order": "asking sizes", "spots_in_order": "sizes", "row_spots": "asking row"},
    "texts": {"sights_text": "sights", "sights_from": "text"},
    "parts": {"part": "table row", "twist": "sights x y z"},
    "making": {"side_by_side": "*worlds", "zeros": "world", "step_numbers": "world many",
               "made_by_parts": "world asking"},
    "giving": {"given_world": "world spot", "split": "world x", "lean": "world x", "bend": "world x",
               "balance": "world", "cov": "world y z", "row_bend": "world lot row"},
    "apart": {"telling": "world", "is_sure": "world lot", "told_apart": "world sort other",
              "independent": "world first second rest"},
    "throwing": {"thrown": "world sort other", "may_throw": "world sort other", "thrown_all": "world"},
    "walks": {"along": "sights walk x y"},
}
CLASSES = {
    ("tables", "Table"): ("asking sizes entries", {
        "rows_of": "table", "at": "self row", "left_to": "self lot", "given": "self spot", "__len__": "self",
        "__iter__": "self", "__eq__": "self other", "__mul__": "self other"}, ["fair"]),
    ("sights", "Sights"): ("singles *seen", {
        "single": "self spot", "sees": "self lot", "__contains__": "self x", "table": "self lot",
        "link": "self x y", "pairs": "self", "linked": "self", "adding": "self lot entries",
        "without": "self look", "__eq__": "self other"}, []),
    ("worlds", "World"): ("chances sorts", {
        "even": "cls sizes many", "chance_at": "self sort spot", "single": "self spot", "made": "self asking",
        "renamed": "self order", "same_as": "self other", "stands_behind": "self sights",
        "sights_of": "self lots", "without": "self look", "mixed": "self look parts", "__len__": "self",
        "__eq__": "self other", "__add__": "self other"}, ["fair"]),
    ("webs", "Web"): ("sights", {
        "piece_of": "self look", "is_ringed": "self number", "sides_of": "self number", "steps": "self look",
        "walk": "self look other odd"}, ["free"]),
}


def told(function):
    """The parameters of a function as one text; a star stands before those that are passed by keyword."""
    if isinstance(function, (staticmethod, classmethod)):
        function = function.__func__
    words = []
    for parameter in inspect.signature(function).parameters.values():
        star = "*" if parameter.kind in (parameter.VAR_POSITIONAL, parameter.KEYWORD_ONLY) else ""
        words.append(star + parameter.name)
    return " ".join(words)


class InterfaceTest(unittest.TestCase):

    def test_functions(self):
        for name, functions in FUNCTIONS.items():
            module = importlib.import_module(f"hiddensorts.{name}")
            for word, parameters in functions.items():
                function = vars(module)[word]
                self.assertTrue(inspect.isfunction(function), word)
                self.assertEqual((function.__module__, told(function)), (module.__name__, parameters), word)

    def test_classes(self):
        for (name, word), (parameters, methods, properties) in CLASSES.items():
            module = importlib.import_module(f"hiddensorts.{name}")
            found = vars(module)[word]
            self.assertEqual(found.__module__, module.__name__)
            self.assertEqual(told(vars(found)["__init__"]), f"self {parameters}")
            for method, wanted in methods.items():
                self.assertEqual(told(vars(found)[method]), wanted, method)
            for method in properties:
                self.assertIsInstance(vars(found)[method], property)
        self.assertEqual(inspect.signature(Sights).parameters["seen"].default, ())

    def test_the_readme_tells_the_use_and_the_tests(self):
        text = (ROOT / "README.md").read_text(encoding="utf-8")
        self.assertIn("python3 -m unittest", text)
        self.assertIn(".ci/run", text)
        example = text.split("```python\n")[1].split("```")[0]
        names = {}
        checked = 0
        for line in example.split("\n"):
            call, _, wanted = line.partition("  #")
            if wanted:
                # A comment behind a call tells what it returns, up to a remark in words.
                self.assertEqual(eval(call, names), eval(wanted.split(", though")[0].strip()), line)
                checked += 1
            else:
                exec(call, names)
        self.assertEqual(checked, 4)


class ArgumentsTest(unittest.TestCase):
    """Point 2: lists and tuples serve alike, arguments stay as they are, equal ones give equal results."""

    def calls(self):
        world = random_world(151, (2, 3, 2), 2, low=1)
        sights = world.sights_of([(0, 1), (1, 2)])
        table = world.made((0, 1, 1))
        matrix = [[2, [1, 2]], [[1, 2], 1]]
        entries = [list(entry) for entry in world.made((0, 2)).entries]
        singles = [[list(number) for number in answers] for answers in sights.singles]
        seen = [[[0, 2], entries]]
        plain = [[list(chance) for chance in answers] for answers in world.sorts[0]]
        return [
            (as_ratio, [[6, 4]]), (plus, [[1, 2], [1, 3]]), (total, [[[1, 2], 3]]), (least, [[[1, 2], 3]]),
            (greatest, [[[1, 2], 3]]), (first_rows, [matrix]), (rank, [matrix]), (turned, [matrix]),
            (multiply, [matrix, matrix]), (inverse, [matrix]), (positive, [matrix]),
            (Table, [[0, 2], [2, 3, 2], entries]), (table.at, [[0, 1, 1]]), (table.left_to, [[0]]),
            (table.given, [[1, 2]]), (lambda *more: Sights(more[0], seen=more[1]), [singles, seen]),
            (sights.table, [[0, 1]]), (sights.sees, [[0, 2]]), (sights.link, [[0, 1], [1, 2]]),
            (sights.adding, [[0, 2], entries]), (part, [table, [0, 1, 1]]),
            (World, [[[1, 2], [1, 2]], [plain, plain]]), (world.made, [[0, 0, 1]]), (world.renamed, [[1, 0]]),
            (world.sights_of, [[[0, 1], [0, 2]]]), (world.mixed, [1, [[2], [0, 1]]]),
            (made_by_parts, [world, [0, 1]]), (given_world, [world, [0, 1]]), (row_bend, [world, [0, 1], [1, 2]]),
            (along, [sights, [0, 1, 2, 1], [0, 0], [1, 2]]),
        ]

    def test_arguments_stay_and_tuples_serve(self):
        for call, arguments in self.calls():
            before = copy.deepcopy(arguments)
            first = call(*arguments)
            self.assertEqual([a for a in arguments if isinstance(a, list)], [a for a in before if isinstance(a, list)])
            self.assertEqual(call(*arguments), first)
            self.assertEqual(call(*[self.as_tuples(argument) for argument in arguments]), first)

    def as_tuples(self, value):
        return tuple(self.as_tuples(entry) for entry in value) if isinstance(value, list) else value

    def test_what_is_kept_does_not_change_with_the_arguments(self):
        for call, shared in self.calls():
            arguments = copy.deepcopy(shared)
            first = call(*arguments)
            again = call(*copy.deepcopy(arguments))
            for argument in arguments:
                self.spoil(argument)
            self.assertEqual(first, again)

    def spoil(self, value):
        if isinstance(value, list):
            for entry in value:
                self.spoil(entry)
            value.append("spoilt")

    def test_returned_lists_are_fresh(self):
        world = World([(1, 2), (1, 2)], [[[1, 0], [1, 0]], [[0, 1], [0, 1]]])
        sights = world.sights_of([(0, 1)])
        for call in (sights.pairs, sights.linked, lambda: zeros(world), lambda: Table.rows_of(world.made((0,)))):
            first = call()
            self.assertIs(type(first), list)
            kept = list(first)
            first.clear()
            self.assertEqual(call(), kept)
            self.assertTrue(all(type(entry) is tuple for entry in kept))

    def test_tuples_where_tuples_are_told(self):
        world = World([(1, 2), (1, 2)], [[[1, 0], [1, 0]], [[0, 1], [0, 1]]])
        web = Web(world.sights_of([[0, 1]]))
        for value in (web.pieces, web.sides_of(0), web.steps(0), web.walk(0, 0, False), told_apart(world, 0, 1),
                      first_rows([[1]]), turned([[1]]), web.sights.lots, world.made([0]).asking):
            self.assertIs(type(value), tuple)


class OrderOfErrorsTest(unittest.TestCase):

    def test_spots_are_judged_before_what_was_seen(self):
        sights = random_world(152, (2, 2, 2), 2, low=1).sights_of([(0, 1)])
        good = [(0, 0), (2, 0)]
        for wrong in itertools.permutations([good[1], (9, 9)]):
            with self.assertRaises(Exception) as caught:
                sights.link(*wrong)
            self.assertEqual(type(caught.exception).__name__, "BadSpot")


if __name__ == "__main__":
    unittest.main()
