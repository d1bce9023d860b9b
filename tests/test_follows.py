import copy
import random
import unittest
from fractions import Fraction

from own_sums import KINDS, draw_question, is_fraction, keeps, line, lists_in, shows
from stepjudge.follows import follows, is_right
from stepjudge.points import holds

LITTLE = Fraction(1, 10 ** 6)
NO_UNKNOWNS = (
    ("=", 0, True), ("=", 1, False), ("=", -1, False), ("=", LITTLE, False),
    ("<=", 0, True), ("<=", 1, True), ("<=", -1, False), ("<=", -LITTLE, False),
    ("<", 0, False), ("<", LITTLE, True), ("<", -1, False),
)
NOWHERE = (
    [line("<=", [1, 0], 1), line("<=", [-1, 0], -2)],
    [line("<", [1, 0], 1), line("<=", [-1, 0], -1)],
    [line("<=", [1, 0], 1), line("<", [-1, 0], -1)],
    [line("<", [1, 0], 1), line("<", [-1, 0], -1)],
    [line("<", [1, -1], 0), line("<", [-1, 1], 0)],
    [line("<", [1, 1], 0), line("<", [-1, 0], 0), line("<", [0, -1], 0)],
    [line("=", [1, 0], 1), line("=", [1, 0], 2)],
    [line("=", [1, 0], 2), line("=", [1, 0], 1)],
    [line("=", [1, 1], 1), line("=", [1, -1], 1), line("=", [0, 3], LITTLE)],
    [line("=", [1, 1], 1), line("=", [1, -1], 1), line("=", [0, 3], -LITTLE)],
    [line("=", [2, 0], 3), line("<", [1, 0], Fraction(3, 2))],
    [line("=", [-2, 0], -3), line("<", [-1, 0], Fraction(-3, 2))],
    [line("=", [0, 0], 1)],
    [line("=", [0, 0], -1)],
    [line("<=", [0, 0], -LITTLE)],
    [line("<", [0, 0], 0)],
    [line("<", [0, 0], -1)],
    [line("<=", [1, 2], 4), line("<", [0, 0], 0), line("=", [3, 1], 5)],
)


class VerdictTest(unittest.TestCase):
    def verdict(self, given, others):
        """The verdict, held against all that is promised of it."""
        handed = copy.deepcopy((given, others))
        verdict = follows(given, others)
        self.assertEqual((given, others), handed)
        self.assertIs(type(verdict), tuple)
        self.assertEqual(len(verdict), 2)
        self.assertEqual(follows(given, others), verdict)
        if verdict[0] == "follows":
            self.check_paper(given, others, verdict[1])
        else:
            self.assertEqual(verdict[0], "breaks")
            self.check_point(given, others, verdict[1])
        return verdict

    def check_paper(self, given, others, paper):
        self.assertIs(type(paper), tuple if given[0] == "=" else list)
        lists = lists_in(paper)
        self.assertEqual(len(lists), 2 if given[0] == "=" else 1)
        self.assertEqual(len({id(one) for one in lists}), len(lists))
        for one in lists:
            self.assertTrue(all(is_fraction(weight) for weight in one))
        self.assertTrue(shows(given, others, paper), (given, others, paper))
        self.assertIs(is_right(given, others, paper), True)

    def check_point(self, given, others, point):
        self.assertIs(type(point), tuple)
        self.assertEqual(len(point), len(given[1]))
        self.assertTrue(all(is_fraction(number) for number in point))
        for other in others:
            self.assertTrue(keeps(other, point), (given, others, point))
            self.assertIs(holds(other, point), True)
        self.assertFalse(keeps(given, point), (given, others, point))
        self.assertIs(holds(given, point), False)

    def follow(self, given, *others):
        self.assertEqual(self.verdict(given, list(others))[0], "follows", (given, others))

    def breaks(self, given, *others):
        self.assertEqual(self.verdict(given, list(others))[0], "breaks", (given, others))


class OrdinaryTest(VerdictTest):
    def test_sum_and_difference(self):
        total = line("=", [1, 1], 10)
        apart = line("<=", [-1, 1], -2)
        self.follow(line("<=", [-2, 0], -12), total, apart)
        self.follow(line("<=", [0, 1], 4), total, apart)
        self.breaks(line("<", [0, 1], 4), total, apart)
        self.breaks(line("<=", [0, 1], 4 - LITTLE), total, apart)
        self.breaks(line("<=", [0, 1], 4), total)
        self.breaks(line("<=", [0, 1], 4), apart)
        self.breaks(line("=", [0, 1], 4), total, apart)
        self.follow(line("=", [Fraction(1, 2), Fraction(1, 2)], 5), total, apart)

    def test_the_one_answer_is_told(self):
        others = [line("=", [1, 1, 0], 3), line("=", [0, 1, 1], 5), line("=", [1, 0, 1], 4)]
        self.assertEqual(follows(line("<", [1, 0, 0], 1), others), ("breaks", ((1, 1), (2, 1), (3, 1))))
        self.assertEqual(follows(line("<=", [0, 1, 0], 1), others), ("breaks", ((1, 1), (2, 1), (3, 1))))
        self.follow(line("=", [1, 2, 3], 14), *others)
        half = (1, 2)
        paper = [half, (-1, 2), half]
        self.assertEqual(follows(line("<=", [1, 0, 0], 1), others), ("follows", paper))

    def test_one_unknown(self):
        for many in (1, 2, 3):
            for place in range(many):
                parts = [1 if place == one else 0 for one in range(many)]
                low = [-part for part in parts]
                self.follow(line("<=", parts, 5), line("<=", parts, 5))
                self.follow(line("<", parts, 6), line("<=", parts, 5))
                self.breaks(line("<=", parts, 5), line("<=", parts, 6))
                self.breaks(line("<=", parts, 5), line("<=", low, -5))
                self.breaks(line("<=", parts, 5))
                self.breaks(line("<", low, 5))
                self.breaks(line("=", parts, 0))

    def test_others_that_take_no_part(self):
        for place in range(3):
            others = [line("=", [0, 1, 1], 7), line("<", [0, 1, 0], 2)]
            others.insert(place, line("<=", [1, 0, 0], 3))
            paper = follows(line("<=", [2, 0, 0], 6), others)[1]
            self.assertEqual(paper, [(2, 1) if place == one else (0, 1) for one in range(3)])

    def test_same_line_twice(self):
        other = line("<", [1, -2], 3)
        self.follow(other, other, other, other)
        self.breaks(line("<", [1, -2], 3 - LITTLE), other, other, other)

    def test_edge_by_three(self):
        walls = [line("<=", [-1, 0, 0], 0), line("<=", [0, -1, 0], 0), line("<=", [0, 0, -1], 0)]
        roof = line("<=", [1, 2, 3], 6)
        self.follow(line("<=", [1, 1, 1], 6), roof, *walls)
        self.breaks(line("<=", [1, 1, 1], 6 - LITTLE), roof, *walls)
        self.breaks(line("<", [1, 1, 1], 6), roof, *walls)
        for missing in range(3):
            rest = [wall for place, wall in enumerate(walls) if place != missing]
            if missing == 0:
                self.follow(line("<=", [1, 1, 1], 6), roof, *rest)
            else:
                self.breaks(line("<=", [1, 1, 1], 6), roof, *rest)


class JustTheBoundTest(VerdictTest):
    def test_lines_of_both_kinds(self):
        for first in ("<=", "<"):
            for second in ("<=", "<"):
                others = [line(first, [1, 0], 2), line(second, [0, 1], 3)]
                self.follow(line("<=", [1, 1], 5), *others)
                self.breaks(line("<=", [1, 1], 5 - LITTLE), *others)
                if "<" in (first, second):
                    self.follow(line("<", [1, 1], 5), *others)
                else:
                    self.breaks(line("<", [1, 1], 5), *others)

    def test_a_stranger_doesnt_help(self):
        others = [line("<=", [1, 0], 2), line("<", [0, 1], 3), line("<", [-1, 0], 7)]
        self.breaks(line("<", [1, 0], 2), *others)
        self.follow(line("<", [0, 1], 3), *others)

    def test_the_stricter_of_two(self):
        loose = line("<=", [2, 2], 10)
        strict = line("<", [3, 3], 15)
        for others in ([loose, strict], [strict, loose]):
            self.follow(line("<", [1, 1], 5), *others)
        self.follow(line("<", [1, 1], 5), loose, line("<=", [1, 1], 5), strict, loose)
        self.breaks(line("<", [1, 1], 5), loose, line("<=", [1, 1], 5), loose)

    def test_by_an_equal(self):
        equal = line("=", [1, 1], 5)
        self.breaks(line("<", [1, 1], 5), equal)
        self.follow(line("<=", [1, 1], 5), equal)
        self.follow(line("<", [1, 0], 2), equal, line("<", [0, -1], -3))
        self.breaks(line("<", [1, 0], 2), equal, line("<=", [0, -1], -3))

    def test_the_same_by_equals_and_strictly(self):
        equals = [line("=", [1, 0], 2), line("=", [0, 1], 3)]
        self.follow(line("<", [1, 1], 5), *equals, line("<", [1, 1], 5))
        self.follow(line("=", [1, 1], 5), *equals)


class EqualTest(VerdictTest):
    def test_one_half_alone(self):
        at_most = line("<=", [1, 1], 5)
        at_least = line("<=", [-1, -1], -5)
        self.breaks(line("=", [1, 1], 5), at_most)
        self.breaks(line("=", [1, 1], 5), at_least)
        self.follow(line("=", [1, 1], 5), at_most, at_least)
        self.follow(line("=", [1, 1], 5), at_least, at_most)
        self.follow(line("=", [-2, -2], -10), at_least, at_most)
        self.breaks(line("=", [1, 1], 5 + LITTLE), at_most, at_least)
        self.breaks(line("=", [1, 1], 5 - LITTLE), at_most, at_least)

    def test_which_half(self):
        papers = follows(line("=", [1], 5), [line("<=", [1], 5), line("<=", [-2], -10)])[1]
        self.assertEqual(papers, ([(1, 1), (0, 1)], [(0, 1), (1, 2)]))

    def test_weights_below_0(self):
        papers = follows(line("=", [1], 5), [line("=", [-2], -10)])[1]
        self.assertEqual(papers, ([(-1, 2)], [(1, 2)]))

    def test_broken_on_either_side(self):
        above = self.verdict(line("=", [1], 5), [line("<=", [-1], -5)])[1]
        self.assertLess(Fraction(5), Fraction(*above[0]))
        below = self.verdict(line("=", [1], 5), [line("<=", [1], 5)])[1]
        self.assertLess(Fraction(*below[0]), Fraction(5))


class NoPartTest(VerdictTest):
    def test_no_unknowns(self):
        for kind, bound, kept in NO_UNKNOWNS:
            for others in ([], [line("<=", [], 0)], [line("<", [], 1), line("=", [], 0)]):
                verdict = self.verdict(line(kind, [], bound), others)
                self.assertEqual(verdict[0], "follows" if kept else "breaks")
                if not kept:
                    self.assertEqual(verdict[1], ())

    def test_all_parts_0(self):
        for kind, bound, kept in NO_UNKNOWNS:
            for many in (1, 2, 3):
                kept_others = [line("<", [1] * many, 2), line("=", [1] + [0] * (many - 1), 1)]
                for others in ([], kept_others, [line("<=", [0] * many, 0)]):
                    verdict = self.verdict(line(kind, [0] * many, bound), others)
                    self.assertEqual(verdict[0], "follows" if kept else "breaks")

    def test_no_unknowns_and_nowhere(self):
        for other in (line("<", [], 0), line("<=", [], -1), line("=", [], 1), line("=", [], -1)):
            for kind, bound, kept in NO_UNKNOWNS:
                self.follow(line(kind, [], bound), other)
                self.follow(line(kind, [], bound), line("<=", [], 3), other, line("=", [], 0))


class NowhereTest(VerdictTest):
    def test_all_follows(self):
        for others in NOWHERE:
            for kind in KINDS:
                for parts in ([0, 0], [1, 0], [0, -1], [3, 2], [1, 1]):
                    for bound in (-5, 0, Fraction(7, 2)):
                        self.follow(line(kind, parts, bound), *others)
                        self.follow(line(kind, parts, bound), *reversed(others))

    def test_just_somewhere(self):
        self.breaks(line("<", [1, 0], 1), line("<=", [1, 0], 1), line("<=", [-1, 0], -1))
        self.breaks(line("<", [0, 0], 0), line("=", [1, 0], 1), line("<=", [-1, 0], -1))
        self.breaks(line("<", [0, 0], 0), line("<", [1, 0], 1), line("<", [-1, 0], -1 + LITTLE))
        self.breaks(line("<", [0, 0], 0), line("<", [1, 1], LITTLE), line("<", [-1, 0], 0), line("<", [0, -1], 0))
        self.breaks(line("<", [0, 0], 0), line("<=", [1, 1], 0), line("<=", [-1, 0], 0), line("<=", [0, -1], 0))

    def test_round_of_three(self):
        ring = [line("<", [1, -1, 0], 0), line("<", [0, 1, -1], 0), line("<", [-1, 0, 1], 0)]
        self.follow(line("=", [1, 1, 1], 17), *ring)
        self.breaks(line("=", [1, 1, 1], 17), *ring[1:])
        weak = [("<=", other[1], other[2]) for other in ring]
        self.follow(line("=", [1, 1, -2], 0), *weak)
        self.breaks(line("=", [1, 1, 1], 17), *weak)
        self.follow(line("=", [1, 1, 1], 17), *weak[:2], ring[2])

    def test_papers_of_an_equal_are_two_lists(self):
        papers = follows(line("=", [1, 0], 9), NOWHERE[0])[1]
        papers[0].clear()
        self.assertEqual(len(papers[1]), 2)


class ManyOthersTest(VerdictTest):
    def test_twelve(self):
        corners = [line("<=", [x, y, z], 1) for x in (1, -1) for y in (1, -1) for z in (1, -1)]
        more = [line("<", [1, 0, 0], 1), line("<", [0, 1, 0], 1), line("<", [-1, 0, 0], 1), line("<=", [0, 0, 1], 2)]
        self.follow(line("<", [1, 0, 0], 1), *corners, *more)
        self.breaks(line("<", [1, 0, 0], 1), *corners)
        self.follow(line("<=", [1, 0, 0], 1), *corners)
        self.breaks(line("<", [0, 0, 1], 1), *corners, *more)
        self.follow(line("<=", [0, 0, 1], 1), *corners, *more)
        self.breaks(line("<=", [0, 0, 1], 1 - LITTLE), *corners, *more)
        self.follow(line("<=", [3, 2, 1], 3), *corners, *more)
        self.breaks(line("<=", [3, 2, 1], 3 - LITTLE), *corners, *more)

    def test_four_unknowns_and_fourteen_others(self):
        drawn = random.Random(41)
        for count in range(10):
            point = [drawn.randint(-3, 3) for place in range(4)]
            others = []
            for place in range(14):
                parts = [drawn.choice([-3, -2, -1, 1, 2, 3]) for place in range(4)]
                total = sum(part * number for part, number in zip(parts, point))
                others.append(line(drawn.choice(["<=", "<"]), parts, total + drawn.randint(1, 5)))
            self.verdict(line("<=", [drawn.randint(-3, 3) for place in range(4)], 2), others)


class DrawnTest(VerdictTest):
    def check_drawn(self, seed, count, least, great, most):
        drawn = random.Random(seed)
        found = {}
        counts = {}
        for turn in range(count):
            given, others = draw_question(drawn, great, most)
            form = (self.verdict(given, others)[0], given[0])
            found[form] = found.get(form, 0) + 1
            counts[len(others)] = True
        self.assertEqual(sorted(counts), list(range(most + 1)))
        # Enough of each verdict and kind, so that the drawing itself is worth something.
        for word in ("follows", "breaks"):
            for kind in KINDS:
                self.assertGreaterEqual(found.get((word, kind), 0), least, (word, kind))

    def test_small(self):
        self.check_drawn(7, 3000, 150, False, 12)

    def test_small_of_few(self):
        self.check_drawn(8, 2000, 100, False, 4)

    def test_great(self):
        self.check_drawn(9, 100, 5, True, 12)

    def test_told_weights_as_parts(self):
        # What was told may be handed in as it is, however many figures it has.
        drawn = random.Random(10)
        tried = 0
        while tried < 5:
            given, others = draw_question(drawn, True, 6)
            verdict = follows(given, others)
            if verdict[0] == "breaks" and given[1]:
                tried = tried + 1
                point = verdict[1]
                pinned = [("=", tuple([(1 if place == one else 0, 1) for one in range(len(point))]), number)
                          for place, number in enumerate(point)]
                self.breaks(given, *others, *pinned)
                for other in others:
                    self.follow(other, *pinned)


class AskersOwnTest(unittest.TestCase):
    def test_told_lists_are_new(self):
        others = [line("=", [1], 2), line("<=", [1], 3)]
        for given in (line("<=", [1], 2), line("=", [1], 2)):
            first = follows(given, others)
            wanted = copy.deepcopy(first)
            for one in lists_in(first):
                one.append("more")
            self.assertEqual(follows(given, others), wanted)
            self.assertEqual(others, [line("=", [1], 2), line("<=", [1], 3)])


if __name__ == "__main__":
    unittest.main()
