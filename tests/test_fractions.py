import unittest
from fractions import Fraction

from stepjudge.fractions import below, make, minus, over, plus, shown, times

LONG = 123456789012345678901234567890123
LONGER = 987654321098765432109876543210987654321
WHOLES = [0, 1, -1, 2, -2, 3, -4, 6, 7, -9, 12, 10 ** 29, -(10 ** 30) - 1, LONG, -LONG, LONGER]
FEW = [(0, 1), (1, 1), (-1, 1), (2, 1), (1, 2), (-1, 2), (2, 3), (-3, 2), (7, 6), (LONG, LONGER // 3),
       (-LONG, 2), (1, LONGER), (LONGER, 1)]


def told(fraction):
    return (fraction.numerator, fraction.denominator)


def own(pair):
    return told(Fraction(pair[0], pair[1]))


FRACTIONS = [own(pair) for pair in FEW]


class MakeTest(unittest.TestCase):
    def test_lowest_terms(self):
        self.assertEqual(make(6, 4), (3, 2))
        self.assertEqual(make(4, 2), (2, 1))
        self.assertEqual(make(5, 1), (5, 1))
        self.assertEqual(make(9, 9), (1, 1))

    def test_signs(self):
        self.assertEqual(make(-6, 4), (-3, 2))
        self.assertEqual(make(6, -4), (-3, 2))
        self.assertEqual(make(-6, -4), (3, 2))
        self.assertEqual(make(-1, -1), (1, 1))

    def test_nought(self):
        for d in (1, -1, 7, -7, LONG):
            self.assertEqual(make(0, d), (0, 1))

    def test_all_pairs(self):
        for n in WHOLES:
            for d in WHOLES:
                if d != 0:
                    self.assertEqual(make(n, d), told(Fraction(n, d)))

    def test_long_common_divisor(self):
        self.assertEqual(make(LONG * LONGER * 2, LONGER * 4), own((LONG, 2)))

    def test_kinds(self):
        made = make(6, -4)
        self.assertIs(type(made), tuple)
        self.assertEqual([type(part) for part in made], [int, int])


class ReckonTest(unittest.TestCase):
    def test_ordinary(self):
        self.assertEqual(plus((1, 2), (1, 3)), (5, 6))
        self.assertEqual(plus((1, 2), (1, 2)), (1, 1))
        self.assertEqual(plus((1, 6), (-1, 6)), (0, 1))
        self.assertEqual(minus((1, 2), (1, 3)), (1, 6))
        self.assertEqual(minus((1, 3), (1, 2)), (-1, 6))
        self.assertEqual(times((2, 3), (-3, 4)), (-1, 2))
        self.assertEqual(times((0, 1), (-3, 4)), (0, 1))
        self.assertEqual(over((2, 3), (4, 3)), (1, 2))
        self.assertEqual(over((1, 2), (-3, 1)), (-1, 6))
        self.assertEqual(over((-1, 2), (-3, 1)), (1, 6))
        self.assertEqual(over((0, 1), (-3, 1)), (0, 1))

    def test_all_pairs(self):
        for a in FRACTIONS:
            for b in FRACTIONS:
                one = Fraction(*a)
                other = Fraction(*b)
                with self.subTest(a=a, b=b):
                    self.assertEqual(plus(a, b), told(one + other))
                    self.assertEqual(minus(a, b), told(one - other))
                    self.assertEqual(times(a, b), told(one * other))
                    if other != 0:
                        self.assertEqual(over(a, b), told(one / other))
                    self.assertIs(below(a, b), one < other)


class BelowTest(unittest.TestCase):
    def test_equal(self):
        for a in FRACTIONS:
            self.assertIs(below(a, a), False)

    def test_nearly_equal(self):
        less = (LONGER - 1, LONGER)
        more = (LONGER, LONGER + 1)
        self.assertIs(below(less, more), True)
        self.assertIs(below(more, less), False)
        self.assertIs(below(more, (1, 1)), True)
        self.assertIs(below((1, 1), more), False)
        self.assertIs(below((333333, 1000000), (1, 3)), True)
        self.assertIs(below((1, 3), (333333, 1000000)), False)

    def test_opposite(self):
        self.assertIs(below((-1, 2), (1, 2)), True)
        self.assertIs(below((1, 2), (-1, 2)), False)
        self.assertIs(below((-1, 2), (-1, 3)), True)
        self.assertIs(below((-1, 3), (-1, 2)), False)
        self.assertIs(below((0, 1), (1, LONG)), True)
        self.assertIs(below((-1, LONG), (0, 1)), True)


class ShownTest(unittest.TestCase):
    def test_whole(self):
        self.assertEqual(shown((0, 1)), "0")
        self.assertEqual(shown((7, 1)), "7")
        self.assertEqual(shown((-7, 1)), "-7")
        self.assertEqual(shown((LONG, 1)), "123456789012345678901234567890123")

    def test_parted(self):
        self.assertEqual(shown((1, 2)), "1/2")
        self.assertEqual(shown((-10, 3)), "-10/3")
        self.assertEqual(shown((-1, LONGER)), "-1/987654321098765432109876543210987654321")

    def test_noughts_stay(self):
        for many in (1, 29, 58, 59, 60, 61, 119, 120, 121, 180):
            self.assertEqual(shown((10 ** many, 1)), "1" + "0" * many)
            self.assertEqual(shown((-(10 ** many) + 1, 1)), "-" + "9" * many)
            self.assertEqual(shown((1, 10 ** many + 7)), "1/1" + "0" * (many - 1) + "7")

    def test_any_size(self):
        self.assertEqual(shown((10 ** 9000 + 5, 1)), "1" + "0" * 8999 + "5")
        self.assertEqual(shown((-1, 10 ** 9000)), "-1/1" + "0" * 9000)
        self.assertEqual(shown(make(2 * 10 ** 6000, -6)), "-1" + "0" * 6000 + "/3")


if __name__ == "__main__":
    unittest.main()
