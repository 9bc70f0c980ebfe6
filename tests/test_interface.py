"""Names, places and arguments of the interface; point 0.4; point 2 on arguments and returned lists; README."""

import copy
import importlib
import inspect
import itertools
import unittest
from fractions import Fraction
from pathlib import Path

from hiddensorts import frames
from hiddensorts.apart import told_apart
from hiddensorts.barring import barring, touching
from hiddensorts.bending import turned_spots
from hiddensorts.bets import bet_worth, better_price, prices
from hiddensorts.bounds import bend_ends, lean_ends, verdict, verdict_ends, verdict_world
from hiddensorts.changing import apart_number, change_between, changed, two_of
from hiddensorts.curves import Curve
from hiddensorts.cutting import cut_ends, cut_worlds, join_ends
from hiddensorts.desks import Desk, News
from hiddensorts.drawings import Drawing, drawing_for, turns
from hiddensorts.evens import EvenWeb
from hiddensorts.founding import agrees, found, found_ringed
from hiddensorts.frames import frame_of
from hiddensorts.fullness import blind_pair, dependence, is_full, lot_matrix, pair_matrix, table_rank, yes_no_full
from hiddensorts.givens import across_link, given_sights, shown_lots
from hiddensorts.giving import given_world, row_bend
from hiddensorts.leans import Leans
from hiddensorts.loose import two_worlds, world_at, world_with
from hiddensorts.making import made_by_parts, zeros
from hiddensorts.matrices import first_rows, inverse, multiply, positive, rank, turned
from hiddensorts.meeting import cross_square
from hiddensorts.opening import opened, part_by
from hiddensorts.parting import part_or_draw
from hiddensorts.parts import part
from hiddensorts.plans import a_plan
from hiddensorts.ratios import as_ratio, greatest, least, over, plus, times, total
from hiddensorts.roots import fits_chance
from hiddensorts.saying import says_all, sure_by, unlike_at
from hiddensorts.sewing import sewn, told_matrix
from hiddensorts.showing import can_show, shows_well
from hiddensorts.sights import Sights
from hiddensorts.stakes import Stakes, carried, carried_back, worth_by, worth_of_sorts
from hiddensorts.sureness import border_spots
from hiddensorts.tables import Table
from hiddensorts.tilts import Tilts
from hiddensorts.untold import link_ends, pair_at, twist_ends
from hiddensorts.walks import along
from hiddensorts.webs import Web
from hiddensorts.worlds import World
from tests.oracles import beside
from tests.threes import leaned_sights
from tests.tools import FAR, HALF, NEAR, as_it_looks, random_world

ROOT = Path(__file__).resolve().parent.parent

FUNCTIONS = {
    "ratios": {"is_int": "value", "as_ratio": "value", "plus": "a b", "minus": "a b", "times": "a b",
               "negative": "a", "over": "a b", "sign_of": "a", "below": "a b", "total": "numbers", "least": "numbers",
               "greatest": "numbers", "root_of": "a", "shown": "a", "ratio_of": "text"},
    "matrices": {"first_rows": "m", "rank": "m", "turned": "m", "multiply": "m n", "inverse": "m", "positive": "m"},
    "lots": {"sizes_of": "value", "lot_of": "value many", "asking_of": "value many", "spot_of": "value sizes",
             "rows_in_order": "asking sizes", "spots_in_order": "sizes", "row_spots": "asking row"},
    "texts": {"sights_text": "sights", "sights_from": "text"},
    "parts": {"part": "table row", "twist": "sights x y z"},
    "making": {"side_by_side": "*worlds", "zeros": "world", "step_numbers": "world many",
               "made_by_parts": "world asking"},
    "giving": {"given_world": "world spot", "split": "world x", "lean": "world x", "bend": "world x",
               "balance": "world", "cov": "world y z", "row_bend": "world lot row"},
    "apart": {"telling": "world", "is_sure": "world lot", "told_apart": "world sort other",
              "independent": "world first second rest"},
    "throwing": {"thrown": "world sort other", "may_throw": "world sort other", "thrown_all": "world"},
    "walks": {"along": "sights walk x y"},
    "agreeing": {"reason": "sights", "pairs_agree": "sights"},
    "loose": {"world_at": "tilts s t", "world_with": "tilts p", "two_worlds": "tilts x y", "world_of_all": "sights"},
    "roots": {"fits_chance": "tilts p", "some_chance": "tilts", "go_together": "sights"},
    "checks": {"pair_kind": "web look other", "check_kind": "sights look other", "least_pairs": "sights"},
    "frames": {"frame_of": "sights number", "fair_worlds_of": "frame world"},
    "barring": {"barring": "sights number", "touching": "sights number", "unseen_bar": "sights"},
    "sureness": {"may_be_sure": "frame look", "must_be_sure": "frame look", "border_spots": "frame"},
    "bounds": {"chance_ends": "frame", "verdict_ends": "frame spot", "lean_ends": "frame spot",
               "bend_ends": "frame spot", "verdict": "world spot", "verdict_world": "frame chance"},
    "untold": {"factor_ends": "oblong", "link_ends": "frame x y", "pair_at": "oblong look other factor",
               "twist_ends": "frame x y z", "share_of": "stretch world"},
    "meeting": {"balance_ends": "frame", "meet": "frame other", "meet_all": "frames", "cross_signs": "frame other",
                "cross_square": "frame other x y", "stands_together": "sights"},
    "cutting": {"cut_ends": "oblong factor", "cut_worlds": "oblong factor",
                "join_ends": "oblong side other other_side *sign"},
    "leans": {"has_three": "sights number"},
    "opening": {"part_by": "leans spots", "opened": "leans asking"},
    "bending": {"turned_spots": "leans", "is_fair": "leans", "squares_of": "leans", "world_of": "leans"},
    "standing": {"balance_range": "sights number", "stand": "sights"},
    "givens": {"given_sights": "leans spot", "across_link": "leans other x y", "shown_lots": "leans"},
    "drawings": {"turns": "drawing matrix other", "drawing_for": "matrix other", "draws": "world look other drawing",
                 "drawn_look": "world look drawing", "drawn_sights": "sights look drawing",
                 "told_drawing": "sights look other"},
    "curves": {"curve_of": "tilts look"},
    "bets": {"bet_worth": "table spot price", "prices": "table spot", "better_price": "table other_table spot"},
    "across": {"across_factor": "tilts look other", "drawn_where": "frame look other", "one_teller": "tilts side"},
    "fullness": {"lot_matrix": "world lot", "is_full": "world lot", "pair_matrix": "table lot other",
                 "table_rank": "table lot other", "dependence": "world lot", "yes_no_full": "points",
                 "blind_pair": "world lot"},
    "stakes": {"worth_by": "matrix stakes", "worth_of_sorts": "world lot stakes", "carried": "world lot stakes",
               "carried_back": "world lot stakes", "knowing": "world stakes"},
    "parting": {"part_or_draw": "matrix other"},
    "saying": {"says_all": "world lot other", "sure_by": "world lot third", "unlike_at": "world lot"},
    "sewing": {"sewn": "web walk", "told_matrix": "web look other"},
    "founding": {"agrees": "web", "found": "web chances", "found_ringed": "web", "is_of": "web world"},
    "changing": {"changed": "web world matrix", "change_between": "web world other", "two_of": "web look other",
                 "apart_number": "matrix"},
    "showing": {"can_show": "sights look other", "shows_well": "sights lot entries"},
    "plans": {"to_see": "sights", "a_plan": "sights"},
}
CLASSES = {
    ("tables", "Table"): ("asking sizes entries", {
        "rows_of": "table", "at": "self row", "left_to": "self lot", "given": "self spot", "__len__": "self",
        "__iter__": "self", "__eq__": "self other", "__mul__": "self other"}, ["fair"]),
    ("sights", "Sights"): ("singles *seen", {
        "single": "self spot", "sees": "self lot", "__contains__": "self x", "table": "self lot",
        "link": "self x y", "pairs": "self", "linked": "self", "adding": "self lot entries",
        "without": "self look", "__eq__": "self other"}, []),
    ("worlds", "World"): ("chances sorts", {
        "even": "cls sizes many", "chance_at": "self sort spot", "single": "self spot", "made": "self asking",
        "renamed": "self order", "same_as": "self other", "stands_behind": "self sights",
        "sights_of": "self lots", "without": "self look", "mixed": "self look parts", "__len__": "self",
        "__eq__": "self other", "__add__": "self other"}, ["fair"]),
    ("webs", "Web"): ("sights", {
        "piece_of": "self look", "is_ringed": "self number", "sides_of": "self number", "steps": "self look",
        "walk": "self look other odd"}, ["free"]),
    ("tilts", "Tilts"): ("sights number", {
        "tilt": "self spot", "leaning": "self spot", "told": "self x y", "told_table": "self look other",
        "heights": "self"}, []),
    ("leans", "Leans"): ("sights number", {
        "lean": "self x", "bend": "self x", "link": "self x y", "balance": "self"}, []),
    ("drawings", "Drawing"): ("matrix", {
        "same": "cls size", "__call__": "self numbers", "__mul__": "self other", "__eq__": "self other",
        "__len__": "self"}, []),
    ("curves", "Curve"): ("weights tilts", {
        "height": "self u", "inner": "self", "is_below": "self other", "scaled": "self factor",
        "least_factor": "self other"}, []),
    ("stakes", "Stakes"): ("acts", {
        "__add__": "self other", "__neg__": "self", "__eq__": "self other", "__len__": "self"}, []),
    ("evens", "EvenWeb"): ("sights", {
        "seen_matrix": "self look other", "base_of": "self look other", "walk": "self look other odd"}, []),
    ("desks", "Desk"): ("singles *seen", {
        "see": "self lot entries", "tried": "self lot entries", "back": "self", "frame": "self number",
        "told": "self look other", "balances": "self", "__len__": "self", "__iter__": "self"}, ["word", "so_far"]),
}
# The attributes that the interface lists, for an object of each of these classes.
ATTRIBUTES = {
    "Drawing": "matrix rows columns", "Curve": "weights tilts corners", "Stakes": "acts width",
    "EvenWeb": "sights rank ringed sides", "News": "lot behind kinds opened_now narrower",
    "Leans": "sights number looks tilts", "Tilts": "sights number looks ringed sides base",
    "Table": "asking sizes entries", "Sights": "sizes singles lots", "World": "chances sorts sizes",
    "Web": "sights pieces loners still", "Oblong": "tilts sights number ringed s_low s_high t_low t_high",
    "Stretch": "tilts sights number ringed low high",
}
# Nothing is promised about calling these classes.
FRAMES = {
    "Frame": {},
    "Oblong": {"holds": "self s t", "at": "self s t", "corner": "self s_end t_end", "coordinates": "self world",
               "first_end": "self", "second_end": "self", "only_one": "self", "end_worlds": "self"},
    "Stretch": {"holds": "self p", "at": "self p", "first_end": "self", "second_end": "self", "only_one": "self",
                "end_worlds": "self"},
}


def told(function):
    """The parameters of a function as one text; a star stands before those that are passed by keyword."""
    if isinstance(function, (staticmethod, classmethod)):
        function = function.__func__
    words = []
    for parameter in inspect.signature(function).parameters.values():
        star = "*" if parameter.kind in (parameter.VAR_POSITIONAL, parameter.KEYWORD_ONLY) else ""
        words.append(star + parameter.name)
    return " ".join(words)


class InterfaceTest(unittest.TestCase):

    def test_functions(self):
        for name, functions in FUNCTIONS.items():
            module = importlib.import_module(f"hiddensorts.{name}")
            for word, parameters in functions.items():
                function = vars(module)[word]
                self.assertTrue(inspect.isfunction(function), word)
                self.assertEqual((function.__module__, told(function)), (module.__name__, parameters), word)

    def test_classes(self):
        for (name, word), (parameters, methods, properties) in CLASSES.items():
            module = importlib.import_module(f"hiddensorts.{name}")
            found = vars(module)[word]
            self.assertEqual(found.__module__, module.__name__)
            self.assertEqual(told(vars(found)["__init__"]), f"self {parameters}")
            for method, wanted in methods.items():
                self.assertEqual(told(vars(found)[method]), wanted, method)
            for method in properties:
                self.assertIsInstance(vars(found)[method], property)
        for found in (Sights, Desk):
            self.assertEqual(inspect.signature(found).parameters["seen"].default, ())
        self.assertIn("__eq__", vars(News))
        self.assertEqual(News.__module__, "hiddensorts.desks")
        for found, method in ((Table, "rows_of"), (World, "even"), (Drawing, "same")):
            self.assertIsInstance(vars(found)[method], staticmethod if method == "rows_of" else classmethod)

    def test_attributes(self):
        world = random_world(150, (2, 3, 2), 2, low=1)
        sided, ringed = world.sights_of([(0, 1), (1, 2)]), world.sights_of([(0, 1, 2)])
        objects = [world, world.made((0, 1)), sided, Web(sided), Tilts(sided, 0), frame_of(sided, 0),
                   frame_of(ringed, 0), Leans(ringed, 0), Drawing.same(2), Curve([1], [0]), Stakes([[1, 2]]),
                   EvenWeb(sided), Desk([HALF] * 2).see((0, 1), FAR)]
        self.assertEqual({type(value).__name__ for value in objects}, set(ATTRIBUTES))
        for value in objects:
            for word in ATTRIBUTES[type(value).__name__].split():
                self.assertIn(word, vars(value), type(value).__name__)

    def test_every_module_of_the_document_is_there(self):
        # Of these, frames stands among the functions, and errors has a test of its own.
        names = set(FUNCTIONS) | {name for name, _ in CLASSES} | {"errors"}
        self.assertEqual(len(names), 47)
        for name in names:
            self.assertTrue((ROOT / "hiddensorts" / f"{name}.py").is_file(), name)

    def test_frames(self):
        for word, methods in FRAMES.items():
            found = vars(frames)[word]
            self.assertEqual(found.__module__, "hiddensorts.frames")
            for method, wanted in methods.items():
                self.assertEqual(told(vars(found)[method]), wanted, method)
        self.assertEqual((frames.Oblong.KIND, frames.Stretch.KIND), ("oblong", "stretch"))
        self.assertEqual((frames.Oblong.__bases__, frames.Stretch.__bases__), ((frames.Frame,), (frames.Frame,)))
        self.assertIs(inspect.signature(join_ends).parameters["sign"].default, inspect.Parameter.empty)

    def test_the_readme_tells_the_use_and_the_tests(self):
        text = (ROOT / "README.md").read_text(encoding="utf-8")
        self.assertIn("python3 -m unittest", text)
        self.assertIn(".ci/run", text)
        examples = [part.split("```")[0] for part in text.split("```python\n")[1:]]
        names = {}
        checked = 0
        for line in "\n".join(examples).split("\n"):
            call, _, wanted = line.partition("  #")
            if wanted:
                # A comment behind a call tells what it returns, up to a remark in words.
                if "=" in call.split("(")[0]:
                    exec(call, names)
                    self.assertEqual(type(names[call.split(" ")[0]]).__name__, wanted.split()[1].strip(","))
                else:
                    self.assertEqual(eval(call, names), eval(wanted.split(", though")[0].strip()), line)
                checked += 1
            else:
                exec(call, names)
        self.assertEqual(checked, 24)


class ArgumentsTest(unittest.TestCase):
    """Point 2: lists and tuples serve alike, arguments stay as they are, equal ones give equal results."""

    def calls(self):
        world = random_world(151, (2, 3, 2), 2, low=1)
        sights = world.sights_of([(0, 1), (1, 2)])
        table = world.made((0, 1, 1))
        matrix = [[2, [1, 2]], [[1, 2], 1]]
        entries = [list(entry) for entry in world.made((0, 2)).entries]
        singles = [[list(number) for number in answers] for answers in sights.singles]
        seen = [[[0, 2], entries]]
        plain = [[list(chance) for chance in answers] for answers in world.sorts[0]]
        return [
            (as_ratio, [[6, 4]]), (plus, [[1, 2], [1, 3]]), (total, [[[1, 2], 3]]), (least, [[[1, 2], 3]]),
            (greatest, [[[1, 2], 3]]), (first_rows, [matrix]), (rank, [matrix]), (turned, [matrix]),
            (multiply, [matrix, matrix]), (inverse, [matrix]), (positive, [matrix]),
            (Table, [[0, 2], [2, 3, 2], entries]), (table.at, [[0, 1, 1]]), (table.left_to, [[0]]),
            (table.given, [[1, 2]]), (lambda *more: Sights(more[0], seen=more[1]), [singles, seen]),
            (sights.table, [[0, 1]]), (sights.sees, [[0, 2]]), (sights.link, [[0, 1], [1, 2]]),
            (sights.adding, [[0, 2], entries]), (part, [table, [0, 1, 1]]),
            (World, [[[1, 2], [1, 2]], [plain, plain]]), (world.made, [[0, 0, 1]]), (world.renamed, [[1, 0]]),
            (world.sights_of, [[[0, 1], [0, 2]]]), (world.mixed, [1, [[2], [0, 1]]]),
            (made_by_parts, [world, [0, 1]]), (given_world, [world, [0, 1]]), (row_bend, [world, [0, 1], [1, 2]]),
            (along, [sights, [0, 1, 2, 1], [0, 0], [1, 2]]),
        ] + self.frame_calls(world) + self.telling_calls(world) + self.web_calls()

    def frame_calls(self, world):
        sided, ringed = frame_of(world.sights_of([(0, 1), (1, 2)]), 0), frame_of(world.sights_of([(0, 1, 2)]), 0)
        leans, tilts = Leans(ringed.sights, 0), sided.tilts
        low, high = [list(end) for end in (sided.s_low, sided.t_high)]
        middle = list(over(1, 2))
        return [
            (tilts.tilt, [[0, 1]]), (tilts.leaning, [[1, 1]]), (tilts.told, [[0, 0], [1, 2]]),
            (world_at, [tilts, low, high]), (world_with, [tilts, middle]),
            (two_worlds, [tilts, [0, 0], [2, 1]]), (fits_chance, [tilts, middle]),
            (sided.holds, [low, high]), (sided.at, [low, high]), (ringed.holds, [middle]),
            (ringed.at, [list(ringed.high)]), (verdict_ends, [sided, [0, 1]]), (lean_ends, [ringed, [1, 2]]),
            (bend_ends, [sided, [2, 0]]), (verdict, [world, [2, 0]]),
            (verdict_world, [sided, list(sided.first_end().chances[0])]), (link_ends, [sided, [0, 0], [2, 1]]),
            (pair_at, [sided, 0, 2, list(times(sided.s_low, sided.t_low))]),
            (twist_ends, [ringed, [0, 0], [1, 2], [2, 1]]), (cut_ends, [sided, list(times(sided.s_low, sided.t_low))]),
            (cut_worlds, [sided, list(times(sided.s_low, sided.t_low))]),
            (cross_square, [ringed, ringed, [0, 0], [1, 2]]), (leans.lean, [[0, 1]]), (leans.bend, [[1, 1]]),
            (leans.link, [[0, 1], [0, 0]]), (part_by, [leans, [[0, 1], [2, 0], [0, 1]]]), (opened, [leans, [0, 1, 1]]),
        ]

    def telling_calls(self, world):
        matrix, whole = [[[1, 2], 1, 0], [[1, 2], 0, 1]], [[1, [1, 2]], [2, 0], [0, 1]]
        blunt, stakes, table = Drawing(matrix), Stakes([[1, 2], [[1, 2], 3]]), world.made((0, 1))
        leans = Leans(world.sights_of([(0, 1, 2)]), 0)
        turned_rows = [list(row) for row in multiply(blunt.matrix, whole)]
        double = Leans(beside(leans.sights, leans.sights), 0), Leans(beside(leans.sights, leans.sights), 1)
        curve = Curve([[1, 2], [1, 2]], [1, -1])
        return [
            (given_sights, [leans, [0, 1]]), (across_link, [*double, [0, 1], [3, 1]]), (Drawing, [matrix]),
            (blunt, [[1, [2, 3], 0]]), (turns, [blunt, whole, turned_rows]), (drawing_for, [whole, turned_rows]),
            (lambda *more: Curve(*more).corners, [[[1, 2], [1, 2]], [1, -1]]), (curve.height, [[1, 3]]),
            (bet_worth, [table, [0, 1], [1, 3]]), (prices, [table, [1, 2]]), (better_price, [table, table, [0, 0]]),
            (lot_matrix, [world, [0, 1]]), (is_full, [world, [0]]), (pair_matrix, [world.made((0, 1, 2)), [0], [1, 2]]),
            (table_rank, [table, [0], [1]]), (dependence, [World.even((2, 2), 2), [0]]),
            (yes_no_full, [[[0, [1, 2]], [1, 1]]]), (blind_pair, [World.even((2, 2), 2), [0, 1]]),
            (Stakes, [[[1, [1, 2]], [0, 3]]]), (worth_by, [[[1, [1, 2]]], stakes]),
            (worth_of_sorts, [world, [0, 1], stakes]), (carried, [world, [0], stakes]),
            (carried_back, [world, [1], stakes]), (part_or_draw, [whole, turned_rows]),
            (part_or_draw, [whole, [[3, [3, 2]], [0, 0]]]), (says_all, [world, [0], [1, 2]]),
            (sure_by, [world, [0, 1], [2]]), (unlike_at, [world, [0, 2]]),
        ]

    def web_calls(self):
        world = random_world(153, (2, 3, 2), 2, low=1)
        sights = world.sights_of([(0, 1), (1, 2)])
        web = EvenWeb(sights)
        entries = [list(entry) for entry in world.made((0, 2)).entries]
        singles = [[list(number) for number in answers] for answers in sights.singles]
        seen = [[[0, 1], [list(entry) for entry in world.made((0, 1)).entries]], [[0, 2], entries]]
        desk = Desk(singles, seen=seen[:1])
        return [
            (sewn, [web, [0, 1, 2, 1]]), (found, [web, [[1, 3], [2, 3]]]), (changed, [web, world, [[0, 1], [1, 0]]]),
            (apart_number, [[[1, 0], [[1, 2], 1]]]),
            (lambda *more: Desk(more[0], seen=more[1]).so_far, [singles, seen]),
            (desk.tried, [[0, 2], entries]), (shows_well, [sights, [0, 2], entries]),
        ]

    def test_arguments_stay_and_tuples_serve(self):
        for call, arguments in self.calls():
            before = copy.deepcopy(arguments)
            first = call(*arguments)
            self.assertEqual([a for a in arguments if isinstance(a, list)], [a for a in before if isinstance(a, list)])
            self.assertEqual(call(*arguments), first)
            self.assertEqual(call(*[self.as_tuples(argument) for argument in arguments]), first)

    def as_tuples(self, value):
        return tuple(self.as_tuples(entry) for entry in value) if isinstance(value, list) else value

    def test_what_is_kept_does_not_change_with_the_arguments(self):
        for call, shared in self.calls():
            arguments = copy.deepcopy(shared)
            first = call(*arguments)
            again = call(*copy.deepcopy(arguments))
            for argument in arguments:
                self.spoil(argument)
            self.assertEqual(first, again)

    def spoil(self, value):
        if isinstance(value, list):
            for entry in value:
                self.spoil(entry)
            value.append("spoilt")

    def test_returned_lists_are_fresh(self):
        world = World([(1, 2), (1, 2)], [[[1, 0], [1, 0]], [[0, 1], [0, 1]]])
        sights = world.sights_of([(0, 1)])
        chain = frame_of(Sights([HALF] * 3, seen=[((0, 1), FAR), ((1, 2), FAR)]), 0)
        bar = Sights([HALF] * 4, seen=[((0, 1), NEAR), ((1, 2), FAR), ((2, 3), NEAR)])
        turned = Leans(leaned_sights([HALF] * 3, [[1, -1]] * 3, Fraction(1, 4), Fraction(9, 10), [(0, 1, 2)]), 0)
        for call in (sights.pairs, sights.linked, lambda: zeros(world), lambda: Table.rows_of(world.made((0,))),
                     lambda: barring(bar, 0), lambda: touching(sights, 0), lambda: border_spots(chain),
                     lambda: turned_spots(turned), lambda: shown_lots(Leans(random_leaned(), 0)),
                     lambda: prices(world.made((0, 1)), (0, 0)), lambda: a_plan(chain.sights)):
            first = call()
            self.assertIs(type(first), list)
            kept = list(first)
            first.clear()
            self.assertTrue(kept)
            self.assertEqual(call(), kept)
            self.assertTrue(all(type(entry) is tuple for entry in kept))
        first = chain.end_worlds()
        self.assertIs(type(first), list)
        first.clear()
        self.assertEqual(len(chain.end_worlds()), 4)

    def test_tuples_where_tuples_are_told(self):
        world = World([(1, 2), (1, 2)], [[[1, 0], [1, 0]], [[0, 1], [0, 1]]])
        web = Web(world.sights_of([[0, 1]]))
        tilts = Tilts(web.sights, 0)
        for value in (web.pieces, web.sides_of(0), web.steps(0), web.walk(0, 0, False), told_apart(world, 0, 1),
                      first_rows([[1]]), turned([[1]]), web.sights.lots, world.made([0]).asking, tilts.looks,
                      tilts.sides, tilts.base, tilts.heights(), two_worlds(tilts, [0, 0], [0, 0])):
            self.assertIs(type(value), tuple)

    def test_tuples_where_tuples_are_told_behind_stage_6(self):
        world = random_world(154, (2, 3, 2), 2, low=1)
        sights = world.sights_of([[0, 1], [1, 2]])
        web, dumb = EvenWeb(sights), World.even([2, 2], 2)
        ring = EvenWeb(world.sights_of([[0, 1, 2]]))
        curve, desk = Curve([[1, 2], [1, 2]], [1, -1]), Desk([HALF] * 3, seen=[[[0, 1], FAR]])
        news = desk.tried([1, 2], FAR)
        for value in (Drawing([[1, 1]]).matrix, Drawing([[1, 1]])([1, 2]), curve.weights, curve.tilts, curve.corners,
                      curve.inner(), lot_matrix(world, [0]), pair_matrix(world.made([0, 1]), [0], [1]),
                      dependence(dumb, [0]), blind_pair(dumb, [0]), Stakes([[1]]).acts, web.sides, web.base_of(0, 1),
                      web.seen_matrix(0, 1), web.walk(0, 1, True), sewn(web, [0, 1]), told_matrix(web, 0, 1),
                      told_matrix(ring, 1, 1), change_between(web, world, world), two_of(web, 0, 2), news.lot,
                      news.kinds, news.kinds[0], news.opened_now, desk.balances(), can_show(desk.so_far, 0, 2)):
            self.assertIs(type(value), tuple)
        for matrix in (Drawing([[1, 1]]).matrix, lot_matrix(world, [0]), web.seen_matrix(1, 0), sewn(web, [1, 2]),
                       change_between(web, world, world), told_matrix(ring, 0, 0)):
            self.assertTrue(as_it_looks(matrix) and all(type(row) is tuple for row in matrix))
        self.assertEqual((agrees(web), agrees(ring), type(found_ringed(ring))), (None, None, World))


def random_leaned():
    """Sights of a piece with a three of which some lots were not seen."""
    return leaned_sights([HALF] * 4, [[1, -1]] * 4, Fraction(1, 4), Fraction(1, 9), [(0, 1, 2), (2, 3)])


class OrderOfErrorsTest(unittest.TestCase):

    def test_spots_are_judged_before_what_was_seen(self):
        sights = random_world(152, (2, 2, 2), 2, low=1).sights_of([(0, 1)])
        good = [(0, 0), (2, 0)]
        for wrong in itertools.permutations([good[1], (9, 9)]):
            with self.assertRaises(Exception) as caught:
                sights.link(*wrong)
            self.assertEqual(type(caught.exception).__name__, "BadSpot")


if __name__ == "__main__":
    unittest.main()
