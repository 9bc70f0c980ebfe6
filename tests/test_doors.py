"""Each door that takes a spot, a row, a sort, a lot or a look refuses wrong ones and lets good ones through."""

import unittest

from hiddensorts.across import across_factor, drawn_where
from hiddensorts.apart import independent, is_sure, told_apart
from hiddensorts.barring import barring, touching
from hiddensorts.bets import bet_worth, better_price, prices
from hiddensorts.bounds import bend_ends, lean_ends, verdict, verdict_ends
from hiddensorts.checks import check_kind, pair_kind
from hiddensorts.curves import curve_of
from hiddensorts.desks import Desk
from hiddensorts.drawings import Drawing, drawn_look, drawn_sights, draws, told_drawing
from hiddensorts.errors import BadLook, BadLot, BadPiece, BadSort, BadSpot, BadWalk
from hiddensorts.evens import EvenWeb
from hiddensorts.frames import frame_of
from hiddensorts.fullness import blind_pair, dependence, is_full, lot_matrix, pair_matrix, table_rank
from hiddensorts.givens import across_link, given_sights
from hiddensorts.giving import bend, cov, given_world, lean, row_bend, split
from hiddensorts.leans import Leans, has_three
from hiddensorts.loose import two_worlds
from hiddensorts.lots import asking_of, lot_of, spot_of
from hiddensorts.making import made_by_parts
from hiddensorts.meeting import cross_square
from hiddensorts.opening import opened, part_by
from hiddensorts.parts import part, twist
from hiddensorts.saying import says_all, sure_by, unlike_at
from hiddensorts.sewing import told_matrix
from hiddensorts.showing import shows_well
from hiddensorts.stakes import Stakes, carried, carried_back, worth_of_sorts
from hiddensorts.standing import balance_range
from hiddensorts.sureness import may_be_sure, must_be_sure
from hiddensorts.tables import Table
from hiddensorts.throwing import may_throw, thrown
from hiddensorts.tilts import Tilts
from hiddensorts.untold import factor_ends, link_ends, pair_at, twist_ends
from hiddensorts.walks import along
from hiddensorts.webs import Web
from hiddensorts.worlds import World
from tests.tools import HALF, NO_INTEGERS, NO_LISTS, random_world

WORLD = random_world(161, (2, 3, 2, 2), 2, low=1)
SIGHTS = WORLD.sights_of([(0, 1, 2), (2, 3)])
TABLE = WORLD.made((0, 1, 2))
WEB = Web(SIGHTS)

SIDED = frame_of(World([(1, 2), (1, 2)], [[HALF, [(1, 2), (1, 4), (1, 4)], [(1, 5), (4, 5)], [(2, 3), (1, 3)]],
                                          [[(1, 3), (2, 3)], [(1, 3)] * 3, HALF, [(1, 4), (3, 4)]]])
                 .sights_of([(0, 1), (1, 2), (2, 3)]), 0)
RINGED = frame_of(SIGHTS, 0)
LEANS = Leans(SIGHTS, 0)

EVEN = EvenWeb(SIDED.sights)
PAIR = WORLD.made((0, 1))
DESK = Desk(SIGHTS.singles, seen=[(lot, SIGHTS.table(lot).entries) for lot in SIGHTS.lots])
NAMING = Stakes([[1, 0], [0, 1]])

WRONG_SPOTS = NO_LISTS + [(), (0,), (0, 0, 0), (4, 0), (-1, 0), (0, 2), (1, 3), (0, -1), (True, 0), (0, False),
                          ("0", 0), (0, None), (0.0, 0), [[0], 0]]
WRONG_LOTS = [(None, -1), (7, -1), ("0", -1), ({0: 1}, -1), ([4], 0), ([-1], 0), ([True], 0), ([None, 9], 0),
              ([0, 4], 1), ([1, 0], 1), ([0, 1, 0], 2), ([0, 2, "3"], 2), ([0, [1]], 1), ([0, 1.0], 1)]

SPOT_DOORS = {
    "spot_of": lambda x: spot_of(x, (2, 3, 2, 2)), "Table.given": TABLE.given, "Sights.single": SIGHTS.single,
    "link of x": lambda x: SIGHTS.link(x, (1, 0)), "link of y": lambda x: SIGHTS.link((1, 0), x),
    "twist of x": lambda x: twist(SIGHTS, x, (1, 0), (2, 0)), "twist of y": lambda x: twist(SIGHTS, (1, 0), x, (2, 0)),
    "twist of z": lambda x: twist(SIGHTS, (1, 0), (2, 0), x), "World.chance_at": lambda x: WORLD.chance_at(0, x),
    "World.single": WORLD.single, "given_world": lambda x: given_world(WORLD, x), "split": lambda x: split(WORLD, x),
    "lean": lambda x: lean(WORLD, x), "bend": lambda x: bend(WORLD, x), "cov of y": lambda x: cov(WORLD, x, (1, 0)),
    "cov of z": lambda x: cov(WORLD, (1, 0), x), "along from x": lambda x: along(SIGHTS, (0, 1), x, (1, 0)),
    "along to y": lambda x: along(SIGHTS, (1, 0), (1, 0), x), "tilt": SIDED.tilts.tilt,
    "leaning": RINGED.tilts.leaning, "told of x": lambda x: RINGED.tilts.told(x, (1, 0)),
    "told of y": lambda x: SIDED.tilts.told((1, 0), x), "two_worlds of x": lambda x: two_worlds(SIDED.tilts, x, (2, 0)),
    "two_worlds of y": lambda x: two_worlds(SIDED.tilts, (2, 0), x), "verdict": lambda x: verdict(WORLD, x),
    "verdict_ends": lambda x: verdict_ends(SIDED, x), "lean_ends": lambda x: lean_ends(RINGED, x),
    "bend_ends": lambda x: bend_ends(SIDED, x), "link_ends of x": lambda x: link_ends(SIDED, x, (2, 1)),
    "link_ends of y": lambda x: link_ends(SIDED, (2, 1), x),
    "twist_ends of x": lambda x: twist_ends(RINGED, x, (1, 0), (2, 0)),
    "twist_ends of y": lambda x: twist_ends(SIDED, (1, 0), x, (2, 0)),
    "twist_ends of z": lambda x: twist_ends(RINGED, (1, 0), (2, 0), x),
    "cross_square of x": lambda x: cross_square(RINGED, RINGED, x, (1, 0)),
    "cross_square of y": lambda x: cross_square(RINGED, RINGED, (1, 0), x), "Leans.lean": LEANS.lean,
    "Leans.bend": LEANS.bend, "Leans.link of x": lambda x: LEANS.link(x, (1, 0)),
    "Leans.link of y": lambda x: LEANS.link((1, 0), x), "part_by": lambda x: part_by(LEANS, [(1, 0), x, (2, 0)]),
    "given_sights": lambda x: given_sights(LEANS, x),
    "across_link of x": lambda x: across_link(LEANS, LEANS, x, (1, 0)),
    "across_link of y": lambda x: across_link(LEANS, LEANS, (1, 0), x), "bet_worth": lambda x: bet_worth(PAIR, x, 1),
    "prices": lambda x: prices(PAIR, x), "better_price": lambda x: better_price(PAIR, PAIR, x),
}
ROW_DOORS = {"Table.at": TABLE.at, "part": lambda row: part(TABLE, row),
             "row_bend": lambda row: row_bend(WORLD, (0, 1, 2), row)}
SORT_DOORS = {
    "World.chance_at": lambda s: WORLD.chance_at(s, (0, 0)), "told_apart": lambda s: told_apart(WORLD, s, 0),
    "told_apart of other": lambda s: told_apart(WORLD, 0, s), "thrown": lambda s: thrown(WORLD, s, 0),
    "thrown of other": lambda s: thrown(WORLD, 0, s), "may_throw": lambda s: may_throw(WORLD, s, 0),
    "may_throw of other": lambda s: may_throw(WORLD, 0, s), "renamed": lambda s: WORLD.renamed([0, s]),
}
# The lots, behind the wrong ones that all doors share, are good ones and further wrong ones with their places.
LOT_DOORS = {
    "lot_of": (lambda lot: lot_of(lot, 4), [(), (0,), (0, 3)], [([0, 0], 1)]),
    "asking_of": (lambda lot: asking_of(lot, 4), [(), (0, 0), (0, 3, 3)], []),
    "Table": (lambda lot: Table(lot, (2, 2, 2, 2), [(1, 4)] * 4), [(0, 0), (0, 3), (3, 3)], [([], -1)]),
    "left_to": (TABLE.left_to, [(0,), (0, 2), (0, 1, 2)], [([], -1), ([0, 0], 1), ([3], 0), ([0, 1, 3], 2)]),
    "sees": (SIGHTS.sees, [(), (0,), (0, 3)], [([0, 0], 1)]),
    "in": (lambda lot: lot in SIGHTS, [(), (3,), (0, 1)], [([0, 0], 1)]),
    "Sights.table": (SIGHTS.table, [(0,), (0, 1), (0, 1, 2)], [([], -1), ([0, 0], 1)]),
    "adding": (lambda lot: SIGHTS.adding(lot, WORLD.made(lot).entries if isinstance(lot, tuple) and lot else None),
               [(0, 1), (0, 3)], [([], -1), ([0], -1), ([0, 0], 1)]),
    "made": (WORLD.made, [(0,), (0, 0), (1, 3)], [([], -1)]),
    "sights_of": (lambda lot: WORLD.sights_of([(0, 1), lot]), [(0, 1), (1, 2, 3)],
                  [([], -1), ([0], -1), ([0, 0], 1)]),
    "made_by_parts": (lambda lot: made_by_parts(WORLD, lot), [(0,), (0, 0), (1, 3)], [([], -1)]),
    "row_bend": (lambda lot: row_bend(WORLD, lot, [0] * len(lot) if isinstance(lot, tuple) else None),
                 [(), (0,), (1, 3)], [([0, 0], 1)]),
    "is_sure": (lambda lot: is_sure(WORLD, lot), [(), (0,), (1, 3)], [([0, 0], 1)]),
    "independent, first": (lambda lot: independent(WORLD, lot, (3,), ()), [(0,), (0, 2)],
                           [([], -1), ([0, 0], 1), ([3], -1)]),
    "independent, second": (lambda lot: independent(WORLD, (3,), lot, ()), [(0,), (0, 2)],
                            [([], -1), ([0, 0], 1), ([3], -1)]),
    "independent, rest": (lambda lot: independent(WORLD, (3,), (2,), lot), [(), (0,), (0, 1)],
                          [([0, 0], 1), ([3], -1), ([1, 2], -1)]),
    "opened": (lambda lot: opened(LEANS, lot), [(0,), (0, 0), (1, 3)], [([], -1)]),
    "pair_matrix": (lambda lot: pair_matrix(TABLE, lot, (1,)), [(0,), (0, 2)],
                    [([], -1), ([0, 0], 1), ([3], 0), ([0, 3], 1), ([1], -1)]),
    "pair_matrix of other": (lambda lot: pair_matrix(TABLE, (1,), lot), [(0,), (0, 2)],
                             [([], -1), ([0, 0], 1), ([3], 0), ([0, 3], 1), ([1], -1)]),
    "table_rank": (lambda lot: table_rank(TABLE, lot, (1,)), [(0,), (0, 2)], [([], -1), ([3], 0), ([0, 1], -1)]),
    "carried": (lambda lot: carried(WORLD, lot, Stakes([[1] * (2 if lot == (0,) else 4)])), [(0,), (0, 3)],
                [([], -1), ([0, 0], 1)]),
    "says_all": (lambda lot: says_all(WORLD, lot, (1,)), [(0,), (0, 2, 3)], [([], -1), ([0, 0], 1), ([0, 1], -1)]),
    "says_all of other": (lambda lot: says_all(WORLD, (1,), lot), [(0,), (0, 2)], [([], -1), ([0, 0], 1), ([1], -1)]),
    "sure_by": (lambda lot: sure_by(WORLD, lot, (1,)), [(0,), (0, 2)], [([], -1), ([0, 0], 1), ([1, 2], -1)]),
    "sure_by of third": (lambda lot: sure_by(WORLD, (1,), lot), [(0,), (0, 2)], [([], -1), ([0, 0], 1), ([1], -1)]),
    "tried": (lambda lot: DESK.tried(lot, WORLD.made(lot).entries if isinstance(lot, tuple) and lot else None),
              [(0, 1), (0, 3)], [([], -1), ([0], -1), ([0, 0], 1)]),
    "shows_well": (lambda lot: shows_well(SIGHTS, lot, WORLD.made(lot).entries if isinstance(lot, tuple) and lot
                                          else None), [(0, 1), (0, 3)], [([], -1), ([0], -1), ([0, 0], 1)]),
}
# These take any lot that is not empty.
for WORD, DOOR in (("lot_matrix", lot_matrix), ("is_full", is_full), ("dependence", dependence),
                   ("blind_pair", blind_pair), ("unlike_at", unlike_at)):
    LOT_DOORS[WORD] = (lambda lot, door=DOOR: door(WORLD, lot), [(0,), (0, 1), (1, 2, 3)], [([], -1), ([0, 0], 1)])
for WORD, DOOR in (("worth_of_sorts", worth_of_sorts), ("carried_back", carried_back)):
    LOT_DOORS[WORD] = (lambda lot, door=DOOR: door(WORLD, lot, NAMING), [(0,), (0, 1)], [([], -1), ([0, 0], 1)])

LOOK_DOORS = {"piece_of": WEB.piece_of, "steps": WEB.steps, "walk": lambda look: WEB.walk(look, 0, True),
              "walk to other": lambda look: WEB.walk(0, look, False),
              "told_table": lambda look: SIDED.tilts.told_table(look, 0),
              "told_table of other": lambda look: RINGED.tilts.told_table(0, look),
              "may_be_sure": lambda look: may_be_sure(SIDED, look),
              "must_be_sure": lambda look: must_be_sure(RINGED, look),
              "pair_at": lambda look: pair_at(SIDED, look, look, factor_ends(SIDED)[0]),
              "pair_at of other": lambda look: pair_at(SIDED, 0 if look in (0, 2) else 1, look, factor_ends(SIDED)[1]),
              "draws": lambda look: draws(WORLD, look, 0, Drawing.same(2)),
              "draws of other": lambda look: draws(WORLD, 0, look, Drawing.same(2)),
              "drawn_look": lambda look: drawn_look(WORLD, look, Drawing.same(3 if look == 1 else 2)),
              "drawn_sights": lambda look: drawn_sights(SIGHTS, look, Drawing.same(3 if look == 1 else 2)),
              "curve_of": lambda look: curve_of(SIDED.tilts, look),
              "told_matrix": lambda look: told_matrix(EVEN, look, 0),
              "told_matrix of other": lambda look: told_matrix(EVEN, 0, look),
              "EvenWeb.walk": lambda look: EVEN.walk(look, 0, True),
              "EvenWeb.walk to other": lambda look: EVEN.walk(0, look, False),
              "Desk.told": lambda look: DESK.told(look, 0),
              "Desk.told of other": lambda look: DESK.told(0, look)}
TWO_LOOK_DOORS = {"pair_kind": lambda look, other: pair_kind(WEB, look, other),
                  "check_kind": lambda look, other: check_kind(SIGHTS, look, other),
                  "told_drawing": lambda look, other: told_drawing(SIGHTS, look, other),
                  "across_factor": lambda look, other: across_factor(SIDED.tilts, look, other),
                  "drawn_where": lambda look, other: drawn_where(SIDED, look, other),
                  "seen_matrix": EVEN.seen_matrix, "base_of": EVEN.base_of}
PIECE_DOORS = {"is_ringed": WEB.is_ringed, "sides_of": WEB.sides_of, "Tilts": lambda k: Tilts(SIGHTS, k),
               "frame_of": lambda k: frame_of(SIGHTS, k), "barring": lambda k: barring(SIGHTS, k),
               "touching": lambda k: touching(SIGHTS, k), "has_three": lambda k: has_three(SIGHTS, k),
               "Leans": lambda k: Leans(SIGHTS, k), "balance_range": lambda k: balance_range(SIGHTS, k),
               "Desk.frame": DESK.frame}
LOT_0_DOORS = {"Sights.without": SIGHTS.without, "World.without": WORLD.without,
               "mixed": lambda look: WORLD.mixed(look, [[0], [1, 2]] if look == 1 else [[1], [0]])}


class DoorsTest(unittest.TestCase):

    def test_spots(self):
        for name, door in SPOT_DOORS.items():
            for spot in WRONG_SPOTS:
                with self.subTest(door=name, spot=spot), self.assertRaises(BadSpot):
                    door(spot)
            for spot in ((0, 0), (0, 1), [0, 1]):
                with self.subTest(door=name, spot=spot):
                    door(spot)

    def test_rows(self):
        for name, door in ROW_DOORS.items():
            for row in NO_LISTS + [(), (0, 0), (0,) * 4, (2, 0, 0), (0, 3, 0), (0, 0, -1), (0, True, 0), (None, 0, 0)]:
                with self.subTest(door=name, row=row), self.assertRaises(BadSpot):
                    door(row)
            for row in ((0, 0, 0), [1, 2, 1]):
                with self.subTest(door=name, row=row):
                    door(row)

    def test_sorts(self):
        for name, door in SORT_DOORS.items():
            for sort in NO_INTEGERS + [2, -1]:
                with self.subTest(door=name, sort=sort), self.assertRaises(BadSort):
                    door(sort)
            with self.subTest(door=name):
                door(1)

    def test_lots(self):
        for name, (door, good, wrong) in LOT_DOORS.items():
            for lot, place in WRONG_LOTS + wrong:
                with self.subTest(door=name, lot=lot):
                    with self.assertRaises(BadLot) as caught:
                        door(lot)
                    self.assertEqual(caught.exception.place, place)
            for lot in good:
                with self.subTest(door=name, lot=lot):
                    door(lot)

    def test_looks(self):
        for name, door in LOOK_DOORS.items():
            for look in NO_INTEGERS + [4, -1]:
                with self.subTest(door=name, look=look), self.assertRaises(BadLook):
                    door(look)
            for look in range(4):
                door(look)
        for name, door in TWO_LOOK_DOORS.items():
            for look in NO_INTEGERS + [4, -1]:
                for pair in ((look, 0), (0, look), (look, look), (0, 0)):
                    with self.subTest(door=name, pair=pair), self.assertRaises(BadLook):
                        door(*pair)
            for pair in ((0, 1), (1, 0), (3, 2)):
                door(*pair)
        for name, door in LOT_0_DOORS.items():
            for look in NO_INTEGERS + [4, -1]:
                with self.subTest(door=name, look=look):
                    with self.assertRaises(BadLot) as caught:
                        door(look)
                    self.assertEqual(caught.exception.place, 0)
            for look in range(4):
                door(look)

    def test_pieces_and_walks(self):
        for name, door in PIECE_DOORS.items():
            for number in NO_INTEGERS + [1, -1]:
                with self.subTest(door=name, number=number), self.assertRaises(BadPiece):
                    door(number)
            door(0)
        for look in NO_INTEGERS + [4, -1, 0, 3]:
            with self.assertRaises(BadWalk) as caught:
                along(SIGHTS, (0, look), (0, 0), (0, 0))
            self.assertEqual(caught.exception.place, 1)
        self.assertEqual(len(WEB.pieces), 1)
        self.assertIsInstance(WORLD, World)
        self.assertTrue(WEB.is_ringed(0))


if __name__ == "__main__":
    unittest.main()
