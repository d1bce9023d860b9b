import unittest
from fractions import Fraction

from own_sums import KINDS, keeps, line, told
from stepjudge.points import holds

LITTLE = Fraction(1, 10 ** 29)
LONG = 10 ** 30 - 1
LONGER = 10 ** 29 + 7
POINTS = [
    ([], []),
    ([3], [Fraction(1, 3)]),
    ([0], [17]),
    ([2, -1], [Fraction(1, 2), Fraction(5, 7)]),
    ([1, 0], [-4, 9]),
    ([1, -2, Fraction(3, 4)], [Fraction(1, 3), Fraction(2, 5), -7]),
    ([0, 0, 0], [1, 2, 3]),
    ([Fraction(LONG, LONGER), Fraction(-LONGER, LONG), LONG], [Fraction(LONGER, LONG - 1), LONG, Fraction(-1, LONG)]),
]


class HoldsTest(unittest.TestCase):
    def test_at_below_and_above(self):
        for parts, numbers in POINTS:
            point = tuple(told(number) for number in numbers)
            total = sum((Fraction(part) * number for part, number in zip(parts, numbers)), Fraction(0))
            for little in (LITTLE, 1, LONG):
                with self.subTest(parts=parts, little=little):
                    self.assertIs(holds(line("=", parts, total), point), True)
                    self.assertIs(holds(line("<=", parts, total), point), True)
                    self.assertIs(holds(line("<", parts, total), point), False)
                    # The sum lies below the bound.
                    self.assertIs(holds(line("=", parts, total + little), point), False)
                    self.assertIs(holds(line("<=", parts, total + little), point), True)
                    self.assertIs(holds(line("<", parts, total + little), point), True)
                    # The sum lies above the bound.
                    self.assertIs(holds(line("=", parts, total - little), point), False)
                    self.assertIs(holds(line("<=", parts, total - little), point), False)
                    self.assertIs(holds(line("<", parts, total - little), point), False)

    def test_ordinary(self):
        self.assertIs(holds(("=", ((1, 1), (1, 1)), (10, 1)), ((6, 1), (4, 1))), True)
        self.assertIs(holds(("=", ((1, 1), (1, 1)), (10, 1)), ((6, 1), (9, 2))), False)
        self.assertIs(holds(("<=", ((1, 2), (-1, 1)), (0, 1)), ((2, 1), (1, 1))), True)
        self.assertIs(holds(("<", ((1, 2), (-1, 1)), (0, 1)), ((2, 1), (1, 1))), False)
        self.assertIs(holds(("<", ((1, 2), (-1, 1)), (0, 1)), ((2, 1), (2, 1))), True)

    def test_each_number_has_its_own_part(self):
        for place in range(3):
            parts = [1 if place == one else 0 for one in range(3)]
            point = ((5, 1), (7, 1), (9, 1))
            for other in range(3):
                self.assertIs(holds(line("=", parts, point[other][0]), point), place == other)

    def test_all_small(self):
        numbers = [-1, 0, Fraction(1, 2)]
        for a in numbers:
            for b in numbers:
                for x in numbers:
                    for bound in numbers:
                        for kind in KINDS:
                            given = line(kind, [a, b], bound)
                            point = (told(x), told(2))
                            self.assertIs(holds(given, point), keeps(given, point))


if __name__ == "__main__":
    unittest.main()
