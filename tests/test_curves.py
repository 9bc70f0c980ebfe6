"""Points 93 and 94 and the interface of hiddensorts/curves.py."""

import itertools
import random
import unittest
from fractions import Fraction

from hiddensorts.curves import Curve, curve_of
from hiddensorts.drawings import told_drawing
from hiddensorts.errors import BadCurve, BadLook, BadNumber, OtherPiece, OtherSide
from hiddensorts.sights import Sights
from hiddensorts.tilts import Tilts
from hiddensorts.webs import Web
from tests.shares import height_by_hand
from tests.test_drawings import many_pieces
from tests.test_frames import RING
from tests.tools import FAR, HALF, NO_INTEGERS, NO_LISTS, NO_NUMBERS, as_it_looks, fraction, random_chances, ratio


def random_curve(source, many, *, flat=False):
    """Weights and tilts of a curve, as fractions; some tilts tie."""
    weights = [fraction(chance) for chance in random_chances(source, many, high=4)]
    tilts = [Fraction(0) if flat else Fraction(source.randint(-2, 2), source.randint(1, 2)) for _ in range(many)]
    mean = sum(w * t for w, t in zip(weights, tilts))
    return weights, [tilt - mean for tilt in tilts]


def as_curve(weights, tilts):
    return Curve([list(ratio(weight)) for weight in weights], tuple(ratio(tilt) for tilt in tilts))


def curves(count=60):
    source = random.Random(9200)
    for turn in range(count):
        weights, tilts = random_curve(source, source.randint(1, 6), flat=turn % 9 == 0)
        yield weights, tilts, as_curve(weights, tilts)


def corners_by_hand(weights, tilts):
    found, along, up = [(Fraction(0), Fraction(0))], Fraction(0), Fraction(0)
    for high in sorted(set(tilts), reverse=True):
        for weight, tilt in zip(weights, tilts):
            if tilt == high:
                along, up = along + weight, up + weight * tilt
        found.append((along, up))
    return found


class CurveTest(unittest.TestCase):

    def test_attributes_and_corners(self):
        for weights, tilts, curve in curves():
            self.assertEqual(curve.weights, tuple(ratio(weight) for weight in weights))
            self.assertEqual(curve.tilts, tuple(ratio(tilt) for tilt in tilts))
            wanted = tuple((ratio(along), ratio(up)) for along, up in corners_by_hand(weights, tilts))
            self.assertEqual((curve.corners, curve.inner()), (wanted, wanted[1:-1]))
            self.assertTrue(as_it_looks((curve.corners, curve.inner())))
            self.assertEqual((curve.corners[0], curve.corners[-1]), (((0, 1), (0, 1)), ((1, 1), (0, 1))))
            self.assertEqual(not curve.inner(), not any(tilts))

    def test_heights(self):
        for weights, tilts, curve in curves():
            for u in [Fraction(k, 12) for k in range(13)] + [fraction(along) for along, _ in curve.corners]:
                found = curve.height(list(ratio(u)))
                self.assertEqual(found, ratio(height_by_hand(weights, tilts, u)))
                self.assertGreaterEqual(found[0], 0)
            self.assertEqual([curve.height(0), curve.height(1)], [(0, 1), (0, 1)])

    def test_below(self):
        found = list(curves())
        words = []
        for (weights, tilts, one), (others, far, two) in itertools.product(found[::2], found[1::3]):
            places = [fraction(along) for curve in (one, two) for along, _ in curve.corners]
            wanted = all(height_by_hand(weights, tilts, u) <= height_by_hand(others, far, u) for u in places)
            self.assertIs(one.is_below(two), wanted)
            words.append(wanted)
        self.assertGreater(min(words.count(True), words.count(False)), 30)
        for _, _, curve in found:
            self.assertIs(curve.is_below(curve), True)

    def test_scaled(self):
        for weights, tilts, curve in curves(20):
            for factor in (Fraction(1, 3), Fraction(1), Fraction(5, 2)):
                found = curve.scaled(ratio(factor))
                self.assertIs(type(found), Curve)
                self.assertEqual(found.weights, curve.weights)
                self.assertEqual(found.tilts, tuple(ratio(factor * tilt) for tilt in tilts))
                self.assertEqual(found.height((1, 2)), ratio(factor * fraction(curve.height((1, 2)))))
        for value in NO_NUMBERS + [0, -1, (0, 3), (-1, 2)]:
            with self.assertRaises(BadNumber):
                curve.scaled(value)

    def test_least_factor(self):
        found = list(curves())
        least = []
        for (_, _, one), (_, _, two) in itertools.product(found[::2], found[1::3]):
            factor = one.least_factor(two)
            if not two.inner():
                self.assertEqual(factor, (0, 1))
            elif not one.inner():
                self.assertIsNone(factor)
            else:
                self.assertIs(two.is_below(one.scaled(factor)), True)
                self.assertIs(two.is_below(one.scaled(ratio(fraction(factor) * Fraction(999, 1000)))), False)
                self.assertIs(two.is_below(one), fraction(factor) <= 1)
                least.append(factor)
        self.assertGreater(len(set(least)), 40)

    def test_flat_curves(self):
        flat, other = Curve([1], [0]), Curve([(1, 2), (1, 2)], [1, -1])
        self.assertEqual((flat.corners, flat.inner()), ((((0, 1), (0, 1)), ((1, 1), (0, 1))), ()))
        self.assertEqual((flat.least_factor(other), flat.least_factor(flat), other.least_factor(flat)),
                         (None, (0, 1), (0, 1)))
        self.assertEqual((flat.is_below(other), other.is_below(flat), flat.is_below(flat)), (True, False, True))

    def test_example(self):
        curve = Curve([(1, 4), (1, 4), (1, 2)], [1, 1, -1])
        self.assertEqual((curve.corners, curve.height((3, 4))),
                         ((((0, 1), (0, 1)), ((1, 2), (1, 2)), ((1, 1), (0, 1))), (1, 4)))

    def test_refuses(self):
        half = [(1, 2), (1, 2)]
        for value in NO_LISTS:
            with self.assertRaises(BadCurve):
                Curve(value, [1, -1])
            with self.assertRaises(BadCurve):
                Curve(half, value)
        for value in NO_NUMBERS:
            with self.assertRaises(BadCurve):
                Curve([value, (1, 2)], [1, -1])
            with self.assertRaises(BadCurve):
                Curve(half, [1, value])
        for weights, tilts in (([], []), (half, [1]), ([1], [0, 0]), (half, [1, 1]), (half, [0, (1, 9)]),
                               ([(1, 2), (1, 3)], [2, -3]), ([0, 1], [1, 0]), ([2, -1], [1, 2]), ([1], [(1, 7)])):
            with self.assertRaises(BadCurve):
                Curve(weights, tilts)
        curve = Curve(half, [1, -1])
        for value in NO_NUMBERS + [-1, 2, (-1, 100), (101, 100)]:
            with self.assertRaises(BadNumber):
                curve.height(value)

    def test_arguments_stay(self):
        weights, tilts = [[1, 2], [1, 2]], [1, [-1, 1]]
        curve = Curve(weights, tilts)
        weights[0][0] = 7
        tilts.clear()
        self.assertEqual((curve.weights, curve.tilts), (((1, 2), (1, 2)), ((1, 1), (-1, 1))))


class CurveOfTest(unittest.TestCase):

    def test_of_a_look(self):
        kinds = []
        for sights, number in many_pieces():
            tilts = Tilts(sights, number)
            for look in tilts.looks:
                curve = curve_of(tilts, look)
                reaches = [tilts.told(tilts.base, (look, answer)) if tilts.ringed else tilts.tilt((look, answer))
                           for answer in range(sights.sizes[look])]
                self.assertEqual((curve.weights, curve.tilts), (sights.singles[look], tuple(reaches)))
                self.assertTrue(curve.inner())
                kinds.append(tilts.ringed)
        self.assertEqual(set(kinds), {True, False})

    def test_refuses(self):
        tilts = Tilts(Sights([HALF] * 4, seen=[((0, 1), FAR), ((2, 3), FAR)]), 1)
        for look in NO_INTEGERS + [4, -1]:
            with self.assertRaises(BadLook):
                curve_of(tilts, look)
        for look in (0, 1):
            with self.assertRaises(OtherPiece):
                curve_of(tilts, look)

    def test_drawn_exactly_if_below(self):
        words = []
        for sights, number in many_pieces():
            web, tilts = Web(sights), Tilts(sights, number)
            for look, other in itertools.permutations(tilts.looks, 2):
                if web.walk(look, other, False) is None:
                    with self.assertRaises(OtherSide):
                        told_drawing(sights, look, other)
                    continue
                one, two = curve_of(tilts, look), curve_of(tilts, other)
                found = told_drawing(sights, look, other)
                self.assertEqual(found is not None, two.is_below(one))
                heights = [fraction(up) <= fraction(one.height(along)) for along, up in two.inner()]
                self.assertEqual(found is not None, all(heights))
                both = found is not None and told_drawing(sights, other, look) is not None
                self.assertEqual(both, one.corners == two.corners)
                self.assertEqual(both, self.sums(one) == self.sums(two))
                words.append((found is not None, both))
        self.assertEqual(set(words), {(True, True), (True, False), (False, False)})
        self.assertGreater(min(words.count(word) for word in set(words)), 5)

    def sums(self, curve):
        """Each tilt with the sum of its weights."""
        found = {}
        for weight, tilt in zip(curve.weights, curve.tilts):
            found[tilt] = found.get(tilt, 0) + fraction(weight)
        return found

    def test_a_ring(self):
        tilts = Tilts(Sights([HALF] * 3, seen=RING), 0)
        self.assertEqual([curve_of(tilts, look).tilts for look in range(3)], [((1, 4), (-1, 4))] * 3)


if __name__ == "__main__":
    unittest.main()
