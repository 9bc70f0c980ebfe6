"""Points 10 and 11 and the interface of hiddensorts/texts.py."""

import unittest

from hiddensorts.errors import BadLot, BadNumber, BadSingle, BadTable, BadText, Disagrees
from hiddensorts.sights import Sights
from hiddensorts.texts import sights_from, sights_text
from tests.tools import FAR, HALF, NEAR, random_world

TWO = "look 0: 1/2 1/2\nlook 1: 1/2 1/2\n"


class WrittenTest(unittest.TestCase):

    def test_example(self):
        s = sights_from("look 0: 1/2 1/2\nlook 1: 2/3 1/3\nseen 0 1: 2/6 1/6 1/3 1/6\n")
        self.assertEqual(sights_text(s), "look 0: 1/2 1/2\nlook 1: 2/3 1/3\nseen 0 1: 1/3 1/6 1/3 1/6\n")
        self.assertEqual(s.linked(), [])

    def test_looks_alone(self):
        self.assertEqual(sights_text(Sights([[(1, 3)] * 3])), "look 0: 1/3 1/3 1/3\n")

    def test_lots_stand_as_they_came(self):
        s = Sights([HALF] * 3, seen=[((1, 2), NEAR), ((0, 1), [(1, 2), 0, 0, (1, 2)]), ((1, 2), NEAR)])
        self.assertEqual(sights_text(s), "look 0: 1/2 1/2\nlook 1: 1/2 1/2\nlook 2: 1/2 1/2\n"
                         "seen 1 2: 7/16 1/16 1/16 7/16\nseen 0 1: 1/2 0 0 1/2\nseen 1 2: 7/16 1/16 1/16 7/16\n")

    def test_there_and_back(self):
        for seed in range(5):
            world = random_world(seed, (2, 3, 2, 4), 3)
            sights = world.sights_of([(0, 3), (0, 1, 2), (1, 2), (0, 3)])
            again = sights_from(sights_text(sights))
            self.assertEqual(again, sights)
            self.assertEqual((again.lots, sights_text(again)), (sights.lots, sights_text(sights)))


class ReadTest(unittest.TestCase):

    def test_any_text_of_a_ratio_serves(self):
        s = sights_from("look 0: 2/4 01/002\nlook 1: 3/6 1/2\nseen 0 1: 5/16 6/32 -0/1 1/2\n".replace(
            "5/16 6/32 -0/1 1/2", "0005/16 6/32 3/16 10/32"))
        self.assertEqual(s, Sights([HALF, HALF], seen=[((0, 1), FAR)]))
        zeros = sights_from(TWO + "seen 0 1: 1/2 -0 0/7 2/4\n")
        self.assertEqual(zeros.table((0, 1)).entries, ((1, 2), (0, 1), (0, 1), (1, 2)))

    def assert_line(self, line, text, cause=None):
        with self.assertRaises(BadText) as caught:
            sights_from(text)
        self.assertEqual(caught.exception.line, line, text)
        found = caught.exception.__cause__
        self.assertIs(type(found), cause if cause else type(None), text)
        return found

    def test_no_text_at_all(self):
        for value in (None, 3, True, b"look 0: 1/2 1/2\n", ["look 0: 1/2 1/2\n"], "", "look 0: 1/2 1/2", TWO + " "):
            self.assert_line(0, value)

    def test_lines_of_another_form(self):
        for line in ("", " ", "look", "look:", "look 0", "look 0 1/2 1/2", "look 0:1/2 1/2", "Look 0: 1/2 1/2",
                     " look 0: 1/2 1/2", "look  0: 1/2 1/2", "look 1: 1/2 1/2", "look 00: 1/2 1/2",
                     "look a: 1/2 1/2", "look 0 : 1/2 1/2", "look -0: 1/2 1/2", "look 0 0: 1/2 1/2",
                     "seen:", "seen: 1", "note 0: 1/2 1/2", "look\t0: 1/2 1/2", ":", "0:", "look 0:: 1/2 1/2"):
            self.assert_line(1, line + "\n" + TWO)
            self.assert_line(1, line + "\n")
        for line in ("", "seen 0 01: 1/4 1/4 1/4 1/4", "seen 0 1 1/4 1/4 1/4 1/4", "seen 0  1: 1/4 1/4 1/4 1/4",
                     "seen 0 1:1/4 1/4 1/4 1/4", "seen 00 1: 1/4 1/4 1/4 1/4", "seen 0 x: 1/4 1/4 1/4 1/4",
                     "seen 0,1: 1/4 1/4 1/4 1/4", "seen -1 1: 1/4 1/4 1/4 1/4", "seen  0 1: 1/4 1/4 1/4 1/4",
                     "seen : 1", "look 1: 1/2 1/2", "look 3: 1/2 1/2"):
            self.assert_line(3, TWO + line + "\n")
            self.assert_line(3, TWO + line + "\nrubbish\n")

    def test_ratios_of_another_form(self):
        for line in ("look 0: 1/2 1/2 ", "look 0:  1/2 1/2", "look 0: 1/2  1/2", "look 0: 0.5 0.5", "look 0: 1/2 1/0",
                     "look 0: 1/2 1/2\r", "look 0: ", "look 0: 1/2 look", "look 0: 1/2: 1/2"):
            self.assert_line(1, line + "\n", BadNumber)
        self.assert_line(3, TWO + "seen 0 1: 1/4 1/4 1/4 +1/4\n", BadNumber)

    def test_lines_that_sights_refuse(self):
        found = self.assert_line(2, "look 0: 1/2 1/2\nlook 1: 1/2 1/3\n" + "x\n", BadSingle)
        self.assertEqual(found.look, 1)
        for numbers in ("1", "3/2 -1/2", "1 0", "", " ".join(["1/7"] * 7)):
            if numbers:
                self.assertEqual(self.assert_line(1, f"look 0: {numbers}\n", BadSingle).look, 0)
        nine = "".join(f"look {look}: 1/2 1/2\n" for look in range(9))
        self.assertEqual(self.assert_line(9, nine, BadSingle).look, -1)
        self.assertEqual(self.assert_line(3, TWO + "seen 0 2: 1/4 1/4 1/4 1/4\n", BadLot).place, 1)
        self.assertEqual(self.assert_line(3, TWO + "seen 1 0: 1/4 1/4 1/4 1/4\n", BadLot).place, 1)
        self.assertEqual(self.assert_line(3, TWO + "seen 0: 1/2 1/2\n", BadLot).place, -1)
        self.assertEqual(self.assert_line(3, TWO + "seen 0 1: 1/4 1/4 1/2\n", BadTable).place, -1)
        self.assertEqual(self.assert_line(3, TWO + "seen 0 1: 1/4 -1/4 1/2 1/2\n", BadTable).place, 1)
        self.assertEqual(self.assert_line(3, TWO + "seen 0 1: 1 0 0 0\n", Disagrees).other, (0,))
        text = TWO + "seen 0 1: 1/4 1/4 1/4 1/4\nseen 0 1: 1/2 0 0 1/2\nx\n"
        self.assertEqual(self.assert_line(4, text, Disagrees).other, (0, 1))
        self.assert_line(1, "look 0:\n", BadSingle)

    def test_no_look_ahead_of_a_seen_lot(self):
        self.assertEqual(self.assert_line(1, "seen 0 1: 1/4 1/4 1/4 1/4\n" + TWO, BadSingle).look, -1)

    def test_a_look_behind_a_seen_lot(self):
        self.assert_line(4, TWO + "seen 0 1: 1/4 1/4 1/4 1/4\nlook 2: 1/2 1/2\n")

    def test_looks_of_many_digits(self):
        self.assert_line(3, TWO + "seen 0 " + "1" * 9000 + ": 1\n", BadLot)
        self.assert_line(3, TWO + "seen 0 1: " + "1" * 9000 + " 0 0 0\n", BadTable)


if __name__ == "__main__":
    unittest.main()
