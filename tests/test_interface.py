"""Names, places and arguments of the interface; point 0.4; point 2 on arguments and returned lists; README."""

import copy
import importlib
import inspect
import itertools
import unittest
from fractions import Fraction
from pathlib import Path

from hiddensorts import frames
from hiddensorts.apart import told_apart
from hiddensorts.barring import barring, touching
from hiddensorts.bending import turned_spots
from hiddensorts.bounds import bend_ends, lean_ends, verdict, verdict_ends, verdict_world
from hiddensorts.cutting import cut_ends, cut_worlds, join_ends
from hiddensorts.frames import frame_of
from hiddensorts.giving import given_world, row_bend
from hiddensorts.leans import Leans
from hiddensorts.loose import two_worlds, world_at, world_with
from hiddensorts.making import made_by_parts, zeros
from hiddensorts.matrices import first_rows, inverse, multiply, positive, rank, turned
from hiddensorts.meeting import cross_square
from hiddensorts.opening import opened, part_by
from hiddensorts.parts import part
from hiddensorts.ratios import as_ratio, greatest, least, over, plus, times, total
from hiddensorts.roots import fits_chance
from hiddensorts.sights import Sights
from hiddensorts.sureness import border_spots
from hiddensorts.tables import Table
from hiddensorts.tilts import Tilts
from hiddensorts.untold import link_ends, pair_at, twist_ends
from hiddensorts.walks import along
from hiddensorts.webs import Web
from hiddensorts.worlds import World
from tests.threes import leaned_sights
from tests.tools import FAR, HALF, NEAR, random_world

ROOT = Path(__file__).resolve().parent.parent

FUNCTIONS = {
    "ratios": {"is_int": "value", "as_ratio": "value", "plus": "a b", "minus": "a b", "times": "a b",
               "negative": "a", "over": "a b", "sign_of": "a", "below": "a b", "total": "numbers", "least": "numbers",
               "greatest": "numbers", "root_of": "a", "shown": "a", "ratio_of": "text"},
    "matrices": {"first_rows": "m", "rank": "m", "turned": "m", "multiply": "m n", "inverse": "m", "positive": "m"},
    "lots": {"sizes_of": "value", "lot_of": "value many", "asking_of": "value many", "spot_of": "value sizes",
             "rows_in_order": "asking sizes", "spots_in_order": "sizes", "row_spots": "asking row"},
    "texts": {"sights_text": "sights", "sights_from": "text"},
    "parts": {"part": "table row", "twist": "sights x y z"},
    "making": {"side_by_side": "*worlds", "zeros": "world", "step_numbers": "world many",
               "made_by_parts": "world asking"},
    "giving": {"given_world": "world spot", "split": "world x", "lean": "world x", "bend": "world x",
               "balance": "world", "cov": "world y z", "row_bend": "world lot row"},
    "apart": {"telling": "world", "is_sure": "world lot", "told_apart": "world sort other",
              "independent": "world first second rest"},
    "throwing": {"thrown": "world sort other", "may_throw": "world sort other", "thrown_all": "world"},
    "walks": {"along": "sights walk x y"},
    "agreeing": {"reason": "sights", "pairs_agree": "sights"},
    "loose": {"world_at": "tilts s t", "world_with": "tilts p", "two_worlds": "tilts x y", "world_of_all": "sights"},
    "roots": {"fits_chance": "tilts p", "some_chance": "tilts", "go_together": "sights"},
    "checks": {"pair_kind": "web look other", "check_kind": "sights look other", "least_pairs": "sights"},
    "frames": {"frame_of": "sights number", "fair_worlds_of": "frame world"},
    "barring": {"barring": "sights number", "touching": "sights number", "unseen_bar": "sights"},
    "sureness": {"may_be_sure": "frame look", "must_be_sure": "frame look", "border_spots": "frame"},
    "bounds": {"chance_ends": "frame", "verdict_ends": "frame spot", "lean_ends": "frame spot",
               "bend_ends": "frame spot", "verdict": "world spot", "verdict_world": "frame chance"},
    "untold": {"factor_ends": "oblong", "link_ends": "frame x y", "pair_at": "oblong look other factor",
               "twist_ends": "frame x y z", "share_of": "stretch world"},
    "meeting": {"balance_ends": "frame", "meet": "frame other", "meet_all": "frames", "cross_signs": "frame other",
                "cross_square": "frame other x y", "stands_together": "sights"},
    "cutting": {"cut_ends": "oblong factor", "cut_worlds": "oblong factor",
                "join_ends": "oblong side other other_side *sign"},
    "leans": {"has_three": "sights number"},
    "opening": {"part_by": "leans spots", "opened": "leans asking"},
    "bending": {"turned_spots": "leans", "is_fair": "leans", "squares_of": "leans", "world_of": "leans"},
    "standing": {"balance_range": "sights number", "stand": "sights"},
}
CLASSES = {
    ("tables", "Table"): ("asking sizes entries", {
        "rows_of": "table", "at": "self row", "left_to": "self lot", "given": "self spot", "__len__": "self",
        "__iter__": "self", "__eq__": "self other", "__mul__": "self other"}, ["fair"]),
    ("sights", "Sights"): ("singles *seen", {
        "single": "self spot", "sees": "self lot", "__contains__": "self x", "table": "self lot",
        "link": "self x y", "pairs": "self", "linked": "self", "adding": "self lot entries",
        "without": "self look", "__eq__": "self other"}, []),
    ("worlds", "World"): ("chances sorts", {
        "even": "cls sizes many", "chance_at": "self sort spot", "single": "self spot", "made": "self asking",
        "renamed": "self order", "same_as": "self other", "stands_behind": "self sights",
        "sights_of": "self lots", "without": "self look", "mixed": "self look parts", "__len__": "self",
        "__eq__": "self other", "__add__": "self other"}, ["fair"]),
    ("webs", "Web"): ("sights", {
        "piece_of": "self look", "is_ringed": "self number", "sides_of": "self number", "steps": "self look",
        "walk": "self look other odd"}, ["free"]),
    ("tilts", "Tilts"): ("sights number", {
        "tilt": "self spot", "leaning": "self spot", "told": "self x y", "told_table": "self look other",
        "heights": "self"}, []),
    ("leans", "Leans"): ("sights number", {
        "lean": "self x", "bend": "self x", "link": "self x y", "balance": "self"}, []),
}
# Nothing is promised about calling these classes.
FRAMES = {
    "Frame": {},
    "Oblong": {"holds": "self s t", "at": "self s t", "corner": "self s_end t_end", "coordinates": "self world",
               "first_end": "self", "second_end": "self", "only_one": "self", "end_worlds": "self"},
    "Stretch": {"holds": "self p", "at": "self p", "first_end": "self", "second_end": "self", "only_one": "self",
                "end_worlds": "self"},
}


def told(function):
    """The parameters of a function as one text; a star stands before those that are passed by keyword."""
    if isinstance(function, (staticmethod, classmethod)):
        function = function.__func__
    words = []
    for parameter in inspect.signature(function).parameters.values():
        star = "*" if parameter.kind in (parameter.VAR_POSITIONAL, parameter.KEYWORD_ONLY) else ""
        words.append(star + parameter.name)
    return " ".join(words)


class InterfaceTest(unittest.TestCase):

    def test_functions(self):
        for name, functions in FUNCTIONS.items():
            module = importlib.import_module(f"hiddensorts.{name}")
            for word, parameters in functions.items():
                function = vars(module)[word]
                self.assertTrue(inspect.isfunction(function), word)
                self.assertEqual((function.__module__, told(function)), (module.__name__, parameters), word)

    def test_classes(self):
        for (name, word), (parameters, methods, properties) in CLASSES.items():
            module = importlib.import_module(f"hiddensorts.{name}")
            found = vars(module)[word]
            self.assertEqual(found.__module__, module.__name__)
            self.assertEqual(told(vars(found)["__init__"]), f"self {parameters}")
            for method, wanted in methods.items():
                self.assertEqual(told(vars(found)[method]), wanted, method)
            for method in properties:
                self.assertIsInstance(vars(found)[method], property)
        self.assertEqual(inspect.signature(Sights).parameters["seen"].default, ())

    def test_frames(self):
        for word, methods in FRAMES.items():
            found = vars(frames)[word]
            self.assertEqual(found.__module__, "hiddensorts.frames")
            for method, wanted in methods.items():
                self.assertEqual(told(vars(found)[method]), wanted, method)
        self.assertEqual((frames.Oblong.KIND, frames.Stretch.KIND), ("oblong", "stretch"))
        self.assertEqual((frames.Oblong.__bases__, frames.Stretch.__bases__), ((frames.Frame,), (frames.Frame,)))
        self.assertIs(inspect.signature(join_ends).parameters["sign"].default, inspect.Parameter.empty)

    def test_the_readme_tells_the_use_and_the_tests(self):
        text = (ROOT / "README.md").read_text(encoding="utf-8")
        self.assertIn("python3 -m unittest", text)
        self.assertIn(".ci/run", text)
        examples = [part.split("```")[0] for part in text.split("```python\n")[1:]]
        names = {}
        checked = 0
        for line in "\n".join(examples).split("\n"):
            call, _, wanted = line.partition("  #")
            if wanted:
                # A comment behind a call tells what it returns, up to a remark in words.
                if "=" in call.split("(")[0]:
                    exec(call, names)
                    self.assertEqual(type(names[call.split(" ")[0]]).__name__, wanted.split()[1].strip(","))
                else:
                    self.assertEqual(eval(call, names), eval(wanted.split(", though")[0].strip()), line)
                checked += 1
            else:
                exec(call, names)
        self.assertEqual(checked, 10)


class ArgumentsTest(unittest.TestCase):
    """Point 2: lists and tuples serve alike, arguments stay as they are, equal ones give equal results."""

    def calls(self):
        world = random_world(151, (2, 3, 2), 2, low=1)
        sights = world.sights_of([(0, 1), (1, 2)])
        table = world.made((0, 1, 1))
        matrix = [[2, [1, 2]], [[1, 2], 1]]
        entries = [list(entry) for entry in world.made((0, 2)).entries]
        singles = [[list(number) for number in answers] for answers in sights.singles]
        seen = [[[0, 2], entries]]
        plain = [[list(chance) for chance in answers] for answers in world.sorts[0]]
        return [
            (as_ratio, [[6, 4]]), (plus, [[1, 2], [1, 3]]), (total, [[[1, 2], 3]]), (least, [[[1, 2], 3]]),
            (greatest, [[[1, 2], 3]]), (first_rows, [matrix]), (rank, [matrix]), (turned, [matrix]),
            (multiply, [matrix, matrix]), (inverse, [matrix]), (positive, [matrix]),
            (Table, [[0, 2], [2, 3, 2], entries]), (table.at, [[0, 1, 1]]), (table.left_to, [[0]]),
            (table.given, [[1, 2]]), (lambda *more: Sights(more[0], seen=more[1]), [singles, seen]),
            (sights.table, [[0, 1]]), (sights.sees, [[0, 2]]), (sights.link, [[0, 1], [1, 2]]),
            (sights.adding, [[0, 2], entries]), (part, [table, [0, 1, 1]]),
            (World, [[[1, 2], [1, 2]], [plain, plain]]), (world.made, [[0, 0, 1]]), (world.renamed, [[1, 0]]),
            (world.sights_of, [[[0, 1], [0, 2]]]), (world.mixed, [1, [[2], [0, 1]]]),
            (made_by_parts, [world, [0, 1]]), (given_world, [world, [0, 1]]), (row_bend, [world, [0, 1], [1, 2]]),
            (along, [sights, [0, 1, 2, 1], [0, 0], [1, 2]]),
        ] + self.frame_calls(world)

    def frame_calls(self, world):
        sided, ringed = frame_of(world.sights_of([(0, 1), (1, 2)]), 0), frame_of(world.sights_of([(0, 1, 2)]), 0)
        leans, tilts = Leans(ringed.sights, 0), sided.tilts
        low, high = [list(end) for end in (sided.s_low, sided.t_high)]
        middle = list(over(1, 2))
        return [
            (tilts.tilt, [[0, 1]]), (tilts.leaning, [[1, 1]]), (tilts.told, [[0, 0], [1, 2]]),
            (world_at, [tilts, low, high]), (world_with, [tilts, middle]),
            (two_worlds, [tilts, [0, 0], [2, 1]]), (fits_chance, [tilts, middle]),
            (sided.holds, [low, high]), (sided.at, [low, high]), (ringed.holds, [middle]),
            (ringed.at, [list(ringed.high)]), (verdict_ends, [sided, [0, 1]]), (lean_ends, [ringed, [1, 2]]),
            (bend_ends, [sided, [2, 0]]), (verdict, [world, [2, 0]]),
            (verdict_world, [sided, list(sided.first_end().chances[0])]), (link_ends, [sided, [0, 0], [2, 1]]),
            (pair_at, [sided, 0, 2, list(times(sided.s_low, sided.t_low))]),
            (twist_ends, [ringed, [0, 0], [1, 2], [2, 1]]), (cut_ends, [sided, list(times(sided.s_low, sided.t_low))]),
            (cut_worlds, [sided, list(times(sided.s_low, sided.t_low))]),
            (cross_square, [ringed, ringed, [0, 0], [1, 2]]), (leans.lean, [[0, 1]]), (leans.bend, [[1, 1]]),
            (leans.link, [[0, 1], [0, 0]]), (part_by, [leans, [[0, 1], [2, 0], [0, 1]]]), (opened, [leans, [0, 1, 1]]),
        ]

    def test_arguments_stay_and_tuples_serve(self):
        for call, arguments in self.calls():
            before = copy.deepcopy(arguments)
            first = call(*arguments)
            self.assertEqual([a for a in arguments if isinstance(a, list)], [a for a in before if isinstance(a, list)])
            self.assertEqual(call(*arguments), first)
            self.assertEqual(call(*[self.as_tuples(argument) for argument in arguments]), first)

    def as_tuples(self, value):
        return tuple(self.as_tuples(entry) for entry in value) if isinstance(value, list) else value

    def test_what_is_kept_does_not_change_with_the_arguments(self):
        for call, shared in self.calls():
            arguments = copy.deepcopy(shared)
            first = call(*arguments)
            again = call(*copy.deepcopy(arguments))
            for argument in arguments:
                self.spoil(argument)
            self.assertEqual(first, again)

    def spoil(self, value):
        if isinstance(value, list):
            for entry in value:
                self.spoil(entry)
            value.append("spoilt")

    def test_returned_lists_are_fresh(self):
        world = World([(1, 2), (1, 2)], [[[1, 0], [1, 0]], [[0, 1], [0, 1]]])
        sights = world.sights_of([(0, 1)])
        chain = frame_of(Sights([HALF] * 3, seen=[((0, 1), FAR), ((1, 2), FAR)]), 0)
        bar = Sights([HALF] * 4, seen=[((0, 1), NEAR), ((1, 2), FAR), ((2, 3), NEAR)])
        turned = Leans(leaned_sights([HALF] * 3, [[1, -1]] * 3, Fraction(1, 4), Fraction(9, 10), [(0, 1, 2)]), 0)
        for call in (sights.pairs, sights.linked, lambda: zeros(world), lambda: Table.rows_of(world.made((0,))),
                     lambda: barring(bar, 0), lambda: touching(sights, 0), lambda: border_spots(chain),
                     lambda: turned_spots(turned)):
            first = call()
            self.assertIs(type(first), list)
            kept = list(first)
            first.clear()
            self.assertTrue(kept)
            self.assertEqual(call(), kept)
            self.assertTrue(all(type(entry) is tuple for entry in kept))
        first = chain.end_worlds()
        self.assertIs(type(first), list)
        first.clear()
        self.assertEqual(len(chain.end_worlds()), 4)

    def test_tuples_where_tuples_are_told(self):
        world = World([(1, 2), (1, 2)], [[[1, 0], [1, 0]], [[0, 1], [0, 1]]])
        web = Web(world.sights_of([[0, 1]]))
        tilts = Tilts(web.sights, 0)
        for value in (web.pieces, web.sides_of(0), web.steps(0), web.walk(0, 0, False), told_apart(world, 0, 1),
                      first_rows([[1]]), turned([[1]]), web.sights.lots, world.made([0]).asking, tilts.looks,
                      tilts.sides, tilts.base, tilts.heights(), two_worlds(tilts, [0, 0], [0, 0])):
            self.assertIs(type(value), tuple)


class OrderOfErrorsTest(unittest.TestCase):

    def test_spots_are_judged_before_what_was_seen(self):
        sights = random_world(152, (2, 2, 2), 2, low=1).sights_of([(0, 1)])
        good = [(0, 0), (2, 0)]
        for wrong in itertools.permutations([good[1], (9, 9)]):
            with self.assertRaises(Exception) as caught:
                sights.link(*wrong)
            self.assertEqual(type(caught.exception).__name__, "BadSpot")


if __name__ == "__main__":
    unittest.main()
