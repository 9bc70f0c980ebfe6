"""Point of the interface: hiddensorts/errors.py."""

import inspect
import unittest

from hiddensorts import errors

ARGUMENTS = {
    "BadNumber": (), "ByZero": (), "BadMatrix": (), "BadSize": (), "BadLot": ("place",), "BadSpot": (),
    "BadTable": ("place",), "BadSingle": ("look",), "Disagrees": ("lot", "other"), "NotSeen": ("lot",),
    "NeverMet": ("spot",), "OtherSizes": (), "BadText": ("line",),
    "BadSort": (), "BadChances": (), "BadWorld": ("which", "look"), "NotTwo": (), "NotFair": (),
    "BadLook": (), "BadPiece": (), "BadWalk": ("place",), "Clash": ("reason",), "OtherPiece": (), "IsRinged": (),
    "IsTold": (), "NeedsRoot": ("number",), "NeedsRoots": ("x", "y"), "NotLinked": (),
    "NoFair": ("x", "y"), "Outside": (), "NotBehind": (), "OtherSide": (), "OneSide": (), "NotRinged": (),
    "NoThree": (), "Turned": ("x",), "Unlike": (), "BadDrawing": ("column",), "BadCurve": (),
    "BadStakes": (), "NotFull": (), "NotJoined": ("look",), "NotEven": ("pair",), "Unfounded": ("reason",),
    "BadChange": (), "NotOf": (),
    "NoDeed": (), "IsSeen": (), "HasThree": (), "ManyPieces": (), "NoPlan": (),
}


class ErrorsTest(unittest.TestCase):

    def test_all_are_there_and_no_others(self):
        classes = {name for name, value in vars(errors).items() if inspect.isclass(value)}
        self.assertEqual(classes, set(ARGUMENTS) | {"SortsError"})

    def test_bases(self):
        self.assertEqual(errors.SortsError.__bases__, (Exception,))
        for name in ARGUMENTS:
            self.assertEqual(getattr(errors, name).__bases__, (errors.SortsError,), name)

    def test_arguments_are_kept_under_their_names(self):
        for name, arguments in ARGUMENTS.items():
            values = [("value", place) for place in range(len(arguments))]
            error = getattr(errors, name)(*values)
            self.assertEqual({word: getattr(error, word) for word in arguments}, dict(zip(arguments, values)), name)
            self.assertEqual(vars(error).keys(), set(arguments), name)
            with self.assertRaises(TypeError if arguments else AssertionError):
                getattr(errors, name)(*values[1:])
                self.assertFalse(arguments)
                raise AssertionError()

    def test_integers_are_kept(self):
        self.assertEqual(errors.BadLot(-1).place, -1)
        self.assertEqual(errors.BadTable(3).place, 3)
        self.assertEqual((errors.BadWorld(1, -1).which, errors.BadWorld(1, -1).look), (1, -1))

    def test_lots_spots_pairs_and_rows_are_kept_as_tuples(self):
        lot, other = [0, 1], [1, 2]
        error = errors.Disagrees(lot, other)
        lot.append(5)
        other.clear()
        self.assertEqual((error.lot, error.other), ((0, 1), (1, 2)))
        self.assertEqual(errors.NotSeen([2, 3]).lot, (2, 3))
        self.assertEqual(errors.NeverMet([0, 1]).spot, (0, 1))
        self.assertEqual(errors.NotEven([0, 1]).pair, (0, 1))
        self.assertEqual(errors.Clash(["ring", [0, 1], [0, 1, 2, 0]]).reason, ("ring", (0, 1), (0, 1, 2, 0)))

    def test_one_word_catches_all(self):
        for name, arguments in ARGUMENTS.items():
            with self.assertRaises(errors.SortsError):
                raise getattr(errors, name)(*[0] * len(arguments))


if __name__ == "__main__":
    unittest.main()
