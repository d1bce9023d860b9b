import copy
import random
import unittest
from fractions import Fraction

from own_sums import KINDS, draw_line, line
from stepjudge.reader import read
from stepjudge.texts import shown_line

LONG = 10 ** 30 - 1


def read_again(names, text):
    """The line of a shown text, read behind a row that names the names in their order."""
    first = f"given {'+'.join(names) if names else '0'} = 0"
    return read(f"{first}\ngiven {text}")[1][1][1]


class TextCase(unittest.TestCase):
    def shows(self, names, given, text):
        handed = copy.deepcopy((names, given))
        self.assertEqual(shown_line(names, given), text)
        self.assertEqual((names, given), handed)
        self.assertEqual(read_again(names, text), given)


class PartsTest(TextCase):
    def test_one_part(self):
        for part, word in ((1, "x"), (-1, "-x"), (2, "2*x"), (-2, "-2*x"), (10, "10*x"), (-11, "-11*x"),
                           (Fraction(1, 2), "1/2*x"), (Fraction(-1, 2), "-1/2*x"), (Fraction(11, 10), "11/10*x"),
                           (Fraction(-3, 2), "-3/2*x"), (999999, "999999*x"), (Fraction(1, 999999), "1/999999*x")):
            self.shows(["x"], line("=", [part], 5), word + " = 5")
            self.shows(["x", "y"], line("=", [part, 0], 5), word + " = 5")
            self.shows(["y", "x"], line("=", [0, part], 5), word + " = 5")
            self.shows(["y", "z", "x"], line("=", [0, 0, part], 5), word + " = 5")

    def test_behind_another(self):
        for part, word in ((1, "+y"), (-1, "-y"), (2, "+2*y"), (-2, "-2*y"), (Fraction(1, 2), "+1/2*y"),
                           (Fraction(-1, 2), "-1/2*y"), (Fraction(-3, 2), "-3/2*y"), (0, "")):
            self.shows(["x", "y"], line("<=", [1, part], 5), f"x{word} <= 5")
            self.shows(["x", "y"], line("<=", [-1, part], 5), f"-x{word} <= 5")
            self.shows(["x", "y", "z"], line("<=", [-3, part, 1], 5), f"-3*x{word}+z <= 5")
            self.shows(["x", "z", "y"], line("<=", [Fraction(1, 3), -1, part], 5), f"1/3*x-z{word} <= 5")
            self.shows(["x", "z", "y"], line("<=", [4, 0, part], 5), f"4*x{word} <= 5")

    def test_in_their_order(self):
        given = line("<", [1, -2, Fraction(3, 4)], 1)
        self.shows(["b", "c", "a"], given, "b-2*c+3/4*a < 1")
        self.shows(["a", "b", "c"], given, "a-2*b+3/4*c < 1")

    def test_no_part_but_0(self):
        for names in ([], ["x"], ["x", "y"], ["x", "y", "z"]):
            self.shows(names, line("=", [0] * len(names), 0), "0 = 0")
            self.shows(names, line("<", [0] * len(names), -4), "0 < -4")
            self.shows(names, line("<=", [0] * len(names), Fraction(1, 3)), "0 <= 1/3")


class KindAndBoundTest(TextCase):
    def test_kinds(self):
        for kind in KINDS:
            self.shows(["x", "y"], line(kind, [1, 1], 5), f"x+y {kind} 5")

    def test_bounds(self):
        for bound, word in ((0, "0"), (1, "1"), (-1, "-1"), (12, "12"), (-999999, "-999999"),
                            (Fraction(1, 2), "1/2"), (Fraction(-7, 2), "-7/2"), (Fraction(999999, 10), "999999/10")):
            self.shows(["x"], line("<", [1], bound), f"x < {word}")
            self.shows(["x"], line("<", [-1], bound), f"-x < {word}")


class NamesTest(TextCase):
    def test_lengths(self):
        for many in range(1, 9):
            name = "abcdefgh"[:many]
            self.shows([name], line("=", [1], 0), f"{name} = 0")
            self.shows(["x", name], line("=", [2, -3], 0), f"2*x-3*{name} = 0")

    def test_three_of_eight_letters(self):
        names = ["aaaaaaaa", "bbbbbbbb", "cccccccc"]
        self.shows(names, line("<=", [-1, 1, -1], 7), "-aaaaaaaa+bbbbbbbb-cccccccc <= 7")


class ReadAgainTest(TextCase):
    def test_drawn(self):
        drawn = random.Random(71)
        for turn in range(500):
            many = drawn.randint(0, 3)
            names = drawn.sample(["x", "y", "z", "price", "abcdefgh", "asks", "sofa"], many)
            given = draw_line(drawn, many, KINDS, False)
            self.assertEqual(read_again(names, shown_line(names, given)), given)

    def test_longest_words(self):
        parts = [Fraction(-999999, 999998), Fraction(999998, 999997), Fraction(-999997, 999996)]
        given = line("<=", parts, Fraction(-999999, 999998))
        self.shows(["abcdefgh", "bcdefghi", "cdefghij"], given,
                   "-999999/999998*abcdefgh+999998/999997*bcdefghi-999997/999996*cdefghij <= -999999/999998")

    def test_signs(self):
        # As a reader takes >= and > about, what it read is shown by <= and <.
        work = read("given x-2*y >= 3\ngiven x > 1/2")
        self.shows(work[0], work[1][0][1], "-x+2*y <= -3")
        self.shows(work[0], work[1][1][1], "-x < -1/2")


class GreatNumbersTest(unittest.TestCase):
    def test_thirty_figures(self):
        given = line("=", [LONG, Fraction(-1, LONG)], Fraction(-LONG, 2))
        self.assertEqual(shown_line(["x", "y"], given), f"{LONG}*x-1/{LONG}*y = -{LONG}/2")

    def test_thousands_of_figures(self):
        # More than Python's own str takes in one piece.
        given = ("<", ((10 ** 6000 + 7, 1),), (-1, 10 ** 6000))
        text = "1" + "0" * 5999 + "7*x < -1/1" + "0" * 6000
        self.assertEqual(shown_line(["x"], given), text)


if __name__ == "__main__":
    unittest.main()
