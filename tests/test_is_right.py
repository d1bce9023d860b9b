import copy
import random
import unittest
from fractions import Fraction

from own_sums import draw_question, line, shows, told
from stepjudge.follows import follows, is_right

LITTLE = Fraction(1, 10 ** 6)
LONG = 10 ** 30 - 1


def paper(*weights):
    return [told(weight) for weight in weights]


class RightTest(unittest.TestCase):
    def right(self, given, others, weights):
        self.check(given, others, weights, True)

    def wrong(self, given, others, weights):
        self.check(given, others, weights, False)

    def check(self, given, others, weights, wanted):
        handed = copy.deepcopy((given, others, weights))
        self.assertIs(is_right(given, others, weights), wanted, (given, others, weights))
        self.assertEqual((given, others, weights), handed)
        self.assertIs(shows(given, others, weights), wanted)
        self.assertIs(is_right(given, others, weights), wanted)


class OnePaperTest(RightTest):
    def setUp(self):
        self.others = [line("=", [1, 1], 10), line("<=", [-1, 1], -2), line("<", [0, -1], 0)]
        self.given = line("<=", [0, 2], 8)

    def test_right(self):
        self.right(self.given, self.others, paper(1, 1, 0))
        self.right(line("<=", [1, 0], 10), self.others, paper(1, 0, 1))
        self.right(line("<", [1, 0], 10), self.others, paper(1, 0, 1))
        self.right(line("<=", [-1, 0], -6), self.others, paper(Fraction(-1, 2), Fraction(1, 2), 0))
        self.right(line("<=", [0, 0], 0), self.others, paper(0, 0, 0))
        self.right(line("<=", [0, 0], 0), [], [])
        self.right(line("<=", [], 0), [], [])

    def test_count(self):
        self.wrong(self.given, self.others, paper(1, 1))
        self.wrong(self.given, self.others, paper(1, 1, 0, 0))
        self.wrong(self.given, self.others, [])
        self.wrong(line("<=", [0, 0], 0), self.others, [])
        self.wrong(line("<=", [0, 0], 0), [], paper(0))
        self.wrong(line("<=", [], 5), [], paper(1))
        self.wrong(line("<=", [], 5), [line("<=", [], 1)], [])

    def test_count_where_parts_come_to_0(self):
        others = [line("<=", [1], 1), line("<=", [-1], -2)]
        self.right(line("<=", [3], 1), others, paper(1, 1))
        self.wrong(line("<=", [3], 1), others, paper(1, 1, 0))
        self.wrong(line("<=", [3], 1), others + [line("<=", [1], 1)], paper(1, 1))

    def test_below_0(self):
        # Only an equal may be turned about.
        for kind, wanted in (("=", True), ("<=", False), ("<", False)):
            others = [line(kind, [1], 3)]
            self.check(line("<=", [-1], -3), others, paper(-1), wanted)
            self.check(line("<=", [-1], 0), others, paper(-1), wanted)
            self.check(line("<=", [-LITTLE], 0), others, paper(-LITTLE), wanted)
            self.check(line("<", [-1], 0), others, paper(-1), wanted)

    def test_below_0_where_parts_come_to_0(self):
        for kind, wanted in (("=", True), ("<=", False), ("<", False)):
            self.check(line("<=", [5], 1), [line(kind, [0], 3)], paper(-1), wanted)
            self.check(line("<=", [5], 1), [line("<=", [0], -1), line(kind, [0], 0)], paper(1, -1), wanted)

    def test_parts(self):
        self.wrong(line("<=", [0, 3], 8), self.others, paper(1, 1, 0))
        self.wrong(line("<=", [LITTLE, 2], 8), self.others, paper(1, 1, 0))
        self.wrong(line("<=", [0, 2 - LITTLE], 8), self.others, paper(1, 1, 0))
        self.wrong(line("<=", [2, 0], 8), self.others, paper(1, 1, 0))
        self.wrong(line("<=", [0, -2], 8), self.others, paper(1, 1, 0))
        self.wrong(line("<=", [0, 0], 8), self.others, paper(1, 1, 0))

    def test_bound(self):
        for kind, just in (("<=", True), ("<", False)):
            self.check(line(kind, [0, 2], 8), self.others, paper(1, 1, 0), just)
            self.right(line(kind, [0, 2], 8 + LITTLE), self.others, paper(1, 1, 0))
            self.wrong(line(kind, [0, 2], 8 - LITTLE), self.others, paper(1, 1, 0))
            self.wrong(line(kind, [0, 2], -8), self.others, paper(1, 1, 0))
            self.right(line(kind, [0, 2], 80), self.others, paper(1, 1, 0))

    def test_bound_with_one_that_takes_part(self):
        for kind in ("<=", "<"):
            self.right(line(kind, [1, 0], 10), self.others, paper(1, 0, 1))
            self.right(line(kind, [0, 2 - LITTLE], 8), self.others, paper(1, 1, LITTLE))
            self.wrong(line(kind, [1, 0], 10 - LITTLE), self.others, paper(1, 0, 1))

    def test_great(self):
        others = [line("<=", [Fraction(LONG, 7)], LONG), line("<", [Fraction(1, LONG)], Fraction(-1, LONG - 1))]
        weights = paper(Fraction(7, LONG), LONG * LONG)
        parts = [1 + LONG]
        bound = 7 - Fraction(LONG * LONG, LONG - 1)
        self.right(line("<", parts, bound), others, weights)
        self.wrong(line("<=", parts, bound - Fraction(1, LONG)), others, weights)
        self.wrong(line("<=", [LONG], bound), others, weights)


class NothingTest(RightTest):
    """Parts that come to 0."""

    def test_bound_below_0(self):
        others = [line("<=", [1, 1], 1), line("<=", [-1, -1], -1 - LITTLE)]
        for kind in ("<=", "<"):
            self.right(line(kind, [3, 5], -100), others, paper(1, 1))
            self.right(line(kind, [0, 0], -100), others, paper(1, 1))
            self.wrong(line(kind, [3, 5], -100), others, paper(1, 2))

    def test_bound_of_0(self):
        for first in ("<=", "<"):
            for second in ("<=", "<"):
                others = [line(first, [1, 1], 1), line(second, [-1, -1], -1)]
                strict = "<" in (first, second)
                for kind in ("<=", "<"):
                    self.check(line(kind, [3, 5], -100), others, paper(1, 1), strict)
                    self.check(line(kind, [0, 0], -100), others, paper(1, 1), strict)
                    self.wrong(line(kind, [3, 5], -100), others, paper(0, 0))
                self.right(line("<=", [0, 0], 0), others, paper(1, 1))
                self.check(line("<", [0, 0], 0), others, paper(1, 1), strict)

    def test_bound_above_0(self):
        for one in ("<=", "<"):
            others = [line(one, [1, 1], 1), line(one, [-1, -1], -1 + LITTLE)]
            for kind in ("<=", "<"):
                self.wrong(line(kind, [3, 5], 100), others, paper(1, 1))
                self.right(line(kind, [0, 0], 100), others, paper(1, 1))
                self.wrong(line(kind, [0, 0], -100), others, paper(1, 1))
                self.wrong(line(kind, [0, 0], 0), others, paper(1, 1))

    def test_a_stranger_of_weight_0(self):
        others = [line("<=", [1], 1), line("<=", [-1], -1), line("<", [0], 5), line("<", [1], 0)]
        self.wrong(line("<=", [4], 0), others, paper(1, 1, 0, 0))
        self.wrong(line("<", [0], 0), others, paper(1, 1, 0, 0))

    def test_equals(self):
        others = [line("=", [0], 1), line("=", [0], -1), line("=", [0], 0)]
        self.right(line("<", [4], 0), others, paper(-1, 0, 0))
        self.wrong(line("<", [4], 0), others, paper(1, 0, 0))
        self.right(line("<", [4], 0), others, paper(0, 1, 0))
        self.wrong(line("<", [4], 0), others, paper(0, -1, 0))
        self.wrong(line("<", [4], 0), others, paper(0, 0, 1))
        self.wrong(line("<", [4], 0), others, paper(0, 0, -1))

    def test_no_unknowns(self):
        self.right(line("<", [], -3), [line("<", [], 0)], paper(1))
        self.wrong(line("<", [], -3), [line("<=", [], 0)], paper(1))
        self.wrong(line("<", [], -3), [line("<", [], 0)], paper(0))
        self.right(line("<=", [], 0), [line("<", [], 0)], paper(0))


class TwoPapersTest(RightTest):
    def setUp(self):
        self.others = [line("<=", [1], 5), line("<=", [-1], -5), line("<", [0], 2)]
        self.given = line("=", [1], 5)
        self.up = paper(1, 0, 0)
        self.down = paper(0, 1, 0)

    def test_right(self):
        self.right(self.given, self.others, (self.up, self.down))
        self.right(line("=", [2], 10), self.others, (paper(2, 0, 0), paper(0, 2, 0)))
        self.right(line("=", [-1], -5), self.others, (self.down, self.up))
        self.right(line("=", [1], 5), [line("=", [-2], -10)], (paper(Fraction(-1, 2)), paper(Fraction(1, 2))))
        self.right(line("=", [0], 0), self.others, (paper(0, 0, 0), paper(0, 0, 0)))
        self.right(line("=", [], 0), [], ([], []))

    def test_exchanged(self):
        self.wrong(self.given, self.others, (self.down, self.up))

    def test_one_twice(self):
        self.wrong(self.given, self.others, (self.up, self.up))
        self.wrong(self.given, self.others, (self.down, self.down))

    def test_other_counts(self):
        self.wrong(self.given, self.others, (self.up,))
        self.wrong(self.given, self.others, ())
        self.wrong(self.given, self.others, (self.up, self.down, self.up))

    def test_spoilt(self):
        for spoilt in (paper(1, 0), paper(1, 0, 0, 0), paper(2, 0, 0), paper(1, 0, 3), paper(1, 0, -1),
                       paper(1 + LITTLE, 0, 0), paper(0, -1, 0), paper(0, 0, 0), paper(0, 0, 1)):
            self.wrong(self.given, self.others, (spoilt, self.down))
            self.wrong(line("=", [-1], -5), self.others, (self.down, spoilt))
            self.wrong(self.given, self.others, (self.up, spoilt))

    def test_bound_of_either_half(self):
        self.wrong(line("=", [1], 5 - LITTLE), self.others, (self.up, self.down))
        self.wrong(line("=", [1], 5 + LITTLE), self.others, (self.up, self.down))

    def test_nowhere(self):
        others = [line("<", [1], 5), line("<=", [-1], -5)]
        self.right(line("=", [7], 3), others, (paper(1, 1), paper(2, 2)))
        self.wrong(line("=", [7], 3), others, (paper(1, 1), paper(0, 0)))
        self.wrong(line("=", [7], 3), others, (paper(0, 0), paper(1, 1)))
        self.right(line("=", [1], 6), others, (paper(1, 0), paper(1, 1)))

    def test_a_paper_of_the_other_form(self):
        self.wrong(line("<=", [1], 5), self.others, (self.up, self.down))
        self.wrong(self.given, self.others, self.up)


class DrawnTest(RightTest):
    def test_told_papers_spoilt(self):
        drawn = random.Random(21)
        seen = {True: 0, False: 0}
        for turn in range(1500):
            given, others = draw_question(drawn)
            verdict = follows(given, others)
            if verdict[0] == "breaks" or given[0] == "=":
                continue
            weights = list(verdict[1])
            self.right(given, others, weights)
            if weights:
                place = drawn.randrange(len(weights))
                step = drawn.choice([1, -1, LITTLE, -LITTLE, 0])
                weights[place] = told(Fraction(*weights[place]) + step)
            wanted = shows(given, others, weights)
            seen[wanted] = seen[wanted] + 1
            self.check(given, others, weights, wanted)
        self.assertGreater(min(seen.values()), 100)

    def test_none_for_a_line_that_breaks(self):
        drawn = random.Random(22)
        tried = 0
        for turn in range(1500):
            given, others = draw_question(drawn, most=4)
            if follows(given, others)[0] == "breaks":
                for again in range(3):
                    weights = [told(drawn.choice([0, 1, 2, Fraction(1, 3), -1])) for other in others]
                    if given[0] == "=":
                        more = [told(-Fraction(*weight)) for weight in weights]
                        self.wrong(given, others, (weights, more))
                    else:
                        self.wrong(given, others, weights)
                    tried = tried + 1
        self.assertGreater(tried, 1000)


if __name__ == "__main__":
    unittest.main()
