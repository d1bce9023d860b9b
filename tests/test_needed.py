import copy
import itertools
import random
import unittest
from fractions import Fraction

from own_sums import KINDS, draw_question, keeps, line, lists_in, shows
from stepjudge.follows import follows
from stepjudge.needed import needed

LITTLE = Fraction(1, 10 ** 6)
UP = [line("<=", [1 if place == one else 0 for one in range(3)], 0) for place in range(3)]
DOWN = [line("<=", [-1 if place == one else 0 for one in range(3)], 0) for place in range(3)]
LOOSE = line("<=", [1, 1, 1], 50)


class NeededCase(unittest.TestCase):
    def needed(self, given, others):
        """The answer, held against every choice that is as short or shorter."""
        handed = copy.deepcopy((given, others))
        places = needed(given, others)
        self.assertEqual((given, others), handed)
        again = needed(given, others)
        self.assertEqual(again, places)
        if places is None:
            self.breaks(given, others)
            return None
        self.assertIs(type(places), list)
        self.assertIsNot(again, places)
        self.follow(given, [others[place] for place in places])
        for size in range(len(places) + 1):
            for choice in itertools.combinations(range(len(others)), size):
                if size < len(places) or choice < tuple(places):
                    self.breaks(given, [others[place] for place in choice])
        return places

    def follow(self, given, others):
        word, paper = follows(given, others)
        self.assertEqual(word, "follows", (given, others))
        self.assertTrue(shows(given, others, paper), (given, others))

    def breaks(self, given, others):
        word, point = follows(given, others)
        self.assertEqual(word, "breaks", (given, others))
        self.assertTrue(all(keeps(other, point) for other in others), (given, others))
        self.assertFalse(keeps(given, point), (given, others))


class HowManyTest(NeededCase):
    def test_none_of_them(self):
        others = [line("<=", [1, 0], 3), line("=", [0, 1], 2)]
        for given in (line("<=", [0, 0], 0), line("<", [0, 0], LITTLE), line("=", [0, 0], 0), line("<=", [0, 0], 5)):
            self.assertEqual(self.needed(given, others), [])
            self.assertEqual(self.needed(given, []), [])

    def test_one(self):
        others = [line("<=", [0, 1], 3), line("<", [1, 1], 9), line("<=", [1, 0], 4), line("=", [1, -1], 7)]
        self.assertEqual(self.needed(line("<=", [2, 0], 8), others), [2])
        self.assertEqual(self.needed(line("<=", [0, 1], 3), others), [0])
        self.assertEqual(self.needed(line("<", [1, 1], 9), others), [1])
        self.assertEqual(self.needed(line("=", [-2, 2], -14), others), [3])

    def test_two_only_together(self):
        others = [line("<=", [1, -1], 5), line("<=", [1, 0], 2), line("<=", [0, -1], 7), line("<", [0, 1], 3)]
        self.assertEqual(self.needed(line("<=", [1, 1], 5), others), [1, 3])
        self.assertEqual(self.needed(line("<", [1, 1], 5), others), [1, 3])
        self.assertEqual(self.needed(line("<", [1, 0], 8), [others[0], others[3]]), [0, 1])

    def test_three_only_together(self):
        others = [line("<=", [0, 0, -1], 1), line("<=", [1, 0, 0], 1), line("<=", [0, 1, 0], 1),
                  line("<", [-1, 0, 0], 1), line("<=", [0, 0, 1], 1)]
        self.assertEqual(self.needed(line("<=", [1, 2, 3], 6), others), [1, 2, 4])

    def test_six_of_eight(self):
        others = [UP[0], DOWN[0], LOOSE, UP[1], DOWN[1], UP[2], LOOSE, DOWN[2]]
        self.assertEqual(self.needed(line("=", [1, 2, 3], 0), others), [0, 1, 3, 4, 5, 7])

    def test_all_eight(self):
        # No line of three parts needs more than six, so this one has four.
        others = [line("<=", [way if place == one else 0 for one in range(4)], 0)
                  for place in range(4) for way in (1, -1)]
        self.assertEqual(self.needed(line("=", [1, 2, 3, 4], 0), others), list(range(8)))

    def test_each_of_all_eight_alone(self):
        others = [line("<=", [1], bound) for bound in range(8)]
        self.assertEqual(self.needed(line("<=", [1], 7), others), [0])
        others.reverse()
        self.assertEqual(self.needed(line("<=", [1], 0), others), [7])


class WhichTest(NeededCase):
    def test_first_by_places(self):
        others = [line("<", [1, 1], 9), line("<=", [1, 0], 2), line("<=", [1, 0], 1), line("<=", [0, 1], 3),
                  line("<=", [0, 1], 2)]
        self.assertEqual(self.needed(line("<=", [1, 1], 5), others), [1, 3])
        self.assertEqual(self.needed(line("<=", [1, 1], 4), others), [1, 4])
        self.assertEqual(self.needed(line("<", [1, 1], 4), others), [2, 4])
        self.assertEqual(self.needed(line("<=", [1, 0], 2), others), [1])

    def test_compared_from_the_left(self):
        # Both 0 with 3 and 1 with 2 are enough.
        others = [line("<=", [1, 0], 2), line("<=", [2, 1], 7), line("<=", [-1, 0], -2), line("<=", [0, 1], 3)]
        self.assertEqual(self.needed(line("<=", [1, 1], 5), others), [0, 3])
        self.assertEqual(self.needed(line("<=", [1, 1], 5), others[1:]), [0, 1])

    def test_fewer_behind_a_longer_one(self):
        others = [line("<=", [1, 0], 2), line("<=", [0, 1], 3), line("<=", [1, 1], 5)]
        self.assertEqual(self.needed(line("<=", [1, 1], 5), others), [2])
        others = [UP[0], UP[1], UP[2], line("<=", [1, 1, 0], 0), line("<=", [0, 0, 2], 0)]
        self.assertEqual(self.needed(line("<=", [1, 1, 1], 0), others), [2, 3])
        self.assertEqual(self.needed(line("<=", [1, 1, 1], 0), others + [line("<", [2, 2, 2], 0)]), [5])

    def test_one_told_twice(self):
        other = line("<=", [1, 0], 2)
        second = line("<=", [0, 1], 3)
        self.assertEqual(self.needed(other, [other, other]), [0])
        self.assertEqual(self.needed(other, [second, other, other]), [1])
        self.assertEqual(self.needed(line("<=", [1, 1], 5), [other, other, second, second]), [0, 2])


class KindsTest(NeededCase):
    def test_each_kind_and_many_parts(self):
        for many in range(1, 4):
            for kind in KINDS:
                given = line(kind, [2] * many, 2 * many)
                others = [line("<=", [1] * many, 99)]
                others.extend(line(kind, [1 if place == one else 0 for one in range(many)], 1) for place in range(many))
                self.assertEqual(self.needed(given, others), list(range(1, many + 1)))
                self.assertIs(self.needed(given, others[:-1]), None)

    def test_no_parts(self):
        others = [line("<=", [], 3), line("=", [], 0)]
        self.assertEqual(self.needed(line("<=", [], 0), others), [])
        self.assertEqual(self.needed(line("=", [], 0), others), [])
        self.assertIs(self.needed(line("<", [], 0), others), None)
        self.assertIs(self.needed(line("=", [], 1), others), None)
        self.assertEqual(self.needed(line("=", [], 1), others + [line("<", [], 0)]), [2])

    def test_equal_by_two_halves(self):
        others = [line("<=", [1], 9), line("<=", [1], 5), line("<", [-1], 3), line("<=", [-1], -5)]
        self.assertEqual(self.needed(line("=", [1], 5), others), [1, 3])
        self.assertEqual(self.needed(line("=", [1], 5), others + [line("=", [2], 10)]), [4])

    def test_strictly(self):
        others = [line("<=", [1], 5), line("<", [1], 5), line("<=", [1], 4)]
        self.assertEqual(self.needed(line("<=", [1], 5), others), [0])
        self.assertEqual(self.needed(line("<", [1], 5), others), [1])
        self.assertEqual(self.needed(line("<", [1], 4 + LITTLE), others), [2])


class NotAtAllTest(NeededCase):
    def test_doesnt_follow(self):
        others = [line("<=", [1, 0], 2), line("<=", [0, 1], 3)]
        self.assertIs(self.needed(line("<=", [1, 1], 5 - LITTLE), others), None)
        self.assertIs(self.needed(line("<", [1, 1], 5), others), None)
        self.assertIs(self.needed(line("=", [1, 1], 5), others), None)
        self.assertIs(self.needed(line("<=", [1, 0], 2), []), None)
        self.assertIs(self.needed(line("<", [0, 0], 0), others), None)
        self.assertIs(self.needed(line("<=", [0, 0], -LITTLE), []), None)


class NowhereTest(NeededCase):
    def test_two_that_clash(self):
        others = [line("<=", [0, 1], 3), line("<", [1, 0], 2), line("<=", [1, 1], 9), line("<=", [-1, 0], -2)]
        for given in (line("=", [3, 5], 7), line("<", [0, 0], 0), line("<=", [0, -1], -1)):
            self.assertEqual(self.needed(given, others), [1, 3])

    def test_a_shorter_way_that_holds_somewhere(self):
        others = [line("<", [1, 0], 2), line("<=", [-1, 0], -2), line("<=", [0, 1], 3)]
        self.assertEqual(self.needed(line("<=", [0, 1], 4), others), [2])
        self.assertEqual(self.needed(line("<=", [0, 1], 2), others), [0, 1])

    def test_one_that_clashes_alone(self):
        others = [line("<", [1, 0], 2), line("<=", [-1, 0], -2), line("=", [0, 0], 1), line("<", [0, 0], 0)]
        self.assertEqual(self.needed(line("=", [1, 1], 8), others), [2])

    def test_three_and_four_that_clash(self):
        others = [line("<", [1, 1, 1], 0), DOWN[0], LOOSE, DOWN[1], DOWN[2]]
        self.assertEqual(self.needed(line("=", [1, 5, 7], 3), others), [0, 1, 3, 4])
        others.append(line("<=", [0, -1, -1], 0))
        self.assertEqual(self.needed(line("=", [1, 5, 7], 3), others), [0, 1, 5])


class DrawnTest(NeededCase):
    def test_drawn(self):
        drawn = random.Random(51)
        found = {}
        for turn in range(500):
            given, others = draw_question(drawn, most=8)
            places = self.needed(given, others)
            size = None if places is None else len(places)
            found[size] = found.get(size, 0) + 1
        for size in (None, 0, 1, 2, 3):
            self.assertGreater(found.get(size, 0), 20, size)

    def test_drawn_great(self):
        drawn = random.Random(52)
        for turn in range(5):
            given, others = draw_question(drawn, True, 4)
            self.needed(given, others)


class AskersOwnTest(unittest.TestCase):
    def test_a_new_list_each_time(self):
        others = [line("<=", [1], 2), line("<=", [-1], -2)]
        for given, wanted in ((line("=", [1], 2), [0, 1]), (line("<=", [0], 0), [])):
            first = needed(given, others)
            self.assertEqual(first, wanted)
            self.assertEqual(len(lists_in(first)), 1)
            first.append(7)
            self.assertEqual(needed(given, others), wanted)
        self.assertEqual(others, [line("<=", [1], 2), line("<=", [-1], -2)])


if __name__ == "__main__":
    unittest.main()
