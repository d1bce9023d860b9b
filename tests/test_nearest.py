import copy
import random
import unittest
from fractions import Fraction

from own_sums import draw_others, draw_question, is_fraction, keeps, line, told
from stepjudge.follows import follows
from stepjudge.nearest import nearest, nearest_right, range_of, what_is
from stepjudge.reader import read

LITTLE = Fraction(1, 10 ** 6)
LONG = 10 ** 30 - 1
BOX = [line("<=", [1, 0], 3), line("<", [0, 1], 2), line("<=", [-1, 0], 0), line("<", [0, -1], 1)]
NOWHERE = ([line("<", [1], 0), line("<", [-1], 0)], [line("=", [0], 1)], [line("<", [0], 0)],
           [line("=", [1], 2), line("<=", [1], 2 - LITTLE)])


def parts_of(*numbers):
    return tuple(told(number) for number in numbers)


def unit(place, many):
    return parts_of(*[1 if place == one else 0 for one in range(many)])


class NearestTest(unittest.TestCase):
    def nearest(self, parts, others):
        """The answer, held against what follows and what doesn't."""
        handed = copy.deepcopy((parts, others))
        answer = nearest(parts, others)
        self.assertEqual((parts, others), handed)
        self.assertEqual(nearest(parts, others), answer)
        self.assertIs(type(answer), tuple)
        if answer == ("any",):
            self.assertEqual(follows(line("<", [0] * len(parts), 0), others)[0], "follows")
        elif answer == ("none",):
            for bound in (0, 10 ** 6, LONG * LONG):
                self.assertEqual(follows(("<=", parts, told(bound)), others)[0], "breaks")
        else:
            self.check_bound(parts, others, answer)
        return answer

    def check_bound(self, parts, others, answer):
        word, kind, bound = answer
        self.assertEqual(word, "at")
        self.assertIn(kind, ("<=", "<"))
        self.assertTrue(is_fraction(bound))
        self.assertEqual(follows((kind, parts, bound), others)[0], "follows")
        for little in (LITTLE, Fraction(1, LONG), 1):
            less = told(Fraction(*bound) - little)
            self.assertEqual(follows(("<=", parts, less), others)[0], "breaks")
        if kind == "<=":
            self.assertEqual(follows(("<", parts, bound), others)[0], "breaks")

    def test_at(self):
        self.assertEqual(self.nearest(parts_of(1, 0), BOX), ("at", "<=", (3, 1)))
        self.assertEqual(self.nearest(parts_of(0, 1), BOX), ("at", "<", (2, 1)))
        self.assertEqual(self.nearest(parts_of(-1, 0), BOX), ("at", "<=", (0, 1)))
        self.assertEqual(self.nearest(parts_of(0, -1), BOX), ("at", "<", (1, 1)))
        self.assertEqual(self.nearest(parts_of(1, 1), BOX), ("at", "<", (5, 1)))
        self.assertEqual(self.nearest(parts_of(2, -3), BOX), ("at", "<", (9, 1)))
        self.assertEqual(self.nearest(parts_of(Fraction(1, 2), 0), BOX), ("at", "<=", (3, 2)))

    def test_none(self):
        self.assertEqual(self.nearest(parts_of(1), []), ("none",))
        self.assertEqual(self.nearest(parts_of(0, 1), [line("<=", [1, 0], 3)]), ("none",))
        self.assertEqual(self.nearest(parts_of(1, 1), BOX[1:]), ("none",))
        self.assertEqual(self.nearest(parts_of(1), [line("<=", [-1], 3)]), ("none",))
        self.assertEqual(self.nearest(parts_of(1, 1, 0), [line("=", [1, -1, 0], 3)]), ("none",))

    def test_any(self):
        for others in NOWHERE:
            for part in (-1, 0, 1):
                self.assertEqual(self.nearest(parts_of(part), others), ("any",))
        self.assertEqual(self.nearest((), [line("<", [], 0)]), ("any",))
        self.assertEqual(self.nearest((), [line("=", [], 3)]), ("any",))
        self.assertEqual(self.nearest(parts_of(1, 0), [line("<", [0, 1], 0), line("<=", [0, -1], 0)]), ("any",))

    def test_parts_of_0(self):
        self.assertEqual(self.nearest((), []), ("at", "<=", (0, 1)))
        self.assertEqual(self.nearest((), [line("<", [], 1)]), ("at", "<=", (0, 1)))
        self.assertEqual(self.nearest(parts_of(0, 0), BOX), ("at", "<=", (0, 1)))
        self.assertEqual(self.nearest(parts_of(0, 0, 0), []), ("at", "<=", (0, 1)))

    def test_equals(self):
        others = [line("=", [1, 1], 10), line("=", [1, -1], 3)]
        self.assertEqual(self.nearest(parts_of(2, 0), others), ("at", "<=", (13, 1)))
        self.assertEqual(self.nearest(parts_of(-2, 0), others), ("at", "<=", (-13, 1)))
        self.assertEqual(self.nearest(parts_of(0, 1), others), ("at", "<=", (7, 2)))
        self.assertEqual(self.nearest(parts_of(0, 1), others + [line("<", [0, 1], 4)]), ("at", "<=", (7, 2)))

    def test_great(self):
        others = [line("<", [Fraction(LONG, 7)], LONG - 1)]
        self.assertEqual(self.nearest(parts_of(Fraction(1, LONG)), others),
                         ("at", "<", told(Fraction(7 * (LONG - 1), LONG * LONG))))

    def test_drawn(self):
        drawn = random.Random(31)
        found = {}
        for turn in range(600):
            given, others = draw_question(drawn, most=9)
            answer = self.nearest(given[1], others)
            word = answer[:2]
            found[word] = found.get(word, 0) + 1
        self.assertEqual(sorted(found), [("any",), ("at", "<"), ("at", "<="), ("none",)])
        self.assertGreater(min(found.values()), 20)

    def test_drawn_great(self):
        drawn = random.Random(32)
        for turn in range(12):
            given, others = draw_question(drawn, True, 7)
            self.nearest(given[1], others)


class RangeTest(unittest.TestCase):
    def test_ends(self):
        low = [line("<=", [-1], 2)]
        open_low = [line("<", [-1], 2)]
        high = [line("<=", [2], 5)]
        open_high = [line("<", [2], 5)]
        self.assertEqual(range_of(0, 1, []), (None, None))
        self.assertEqual(range_of(0, 1, low), (((-2, 1), True), None))
        self.assertEqual(range_of(0, 1, open_low), (((-2, 1), False), None))
        self.assertEqual(range_of(0, 1, high), (None, ((5, 2), True)))
        self.assertEqual(range_of(0, 1, open_high), (None, ((5, 2), False)))
        self.assertEqual(range_of(0, 1, low + high), (((-2, 1), True), ((5, 2), True)))
        self.assertEqual(range_of(0, 1, low + open_high), (((-2, 1), True), ((5, 2), False)))
        self.assertEqual(range_of(0, 1, open_low + high), (((-2, 1), False), ((5, 2), True)))
        self.assertEqual(range_of(0, 1, open_low + open_high), (((-2, 1), False), ((5, 2), False)))
        for others in ([], low, open_low, high, open_high, low + high, open_low + high, open_low + open_high):
            self.assertIs(what_is(0, 1, others), None)

    def test_truths(self):
        told_range = range_of(0, 1, [line("<", [-1], 2), line("<=", [1], 5)])
        self.assertIs(told_range[0][1], False)
        self.assertIs(told_range[1][1], True)

    def test_one_number(self):
        three = ((3, 1), True)
        for others in ([line("=", [1], 3)], [line("=", [-2], -6)], [line("<=", [1], 3), line("<=", [-1], -3)],
                       [line("=", [1], 3), line("<", [1], 4), line("<=", [1], 3)]):
            self.assertEqual(range_of(0, 1, others), (three, three))
            self.assertEqual(what_is(0, 1, others), (3, 1))
        zero = ((0, 1), True)
        self.assertEqual(range_of(0, 1, [line("=", [5], 0)]), (zero, zero))
        self.assertEqual(what_is(0, 1, [line("=", [5], 0)]), (0, 1))

    def test_nothing(self):
        for others in NOWHERE:
            self.assertIs(range_of(0, 1, others), None)
            self.assertIs(what_is(0, 1, others), None)
        clash = [line("<", [0, 1], 0), line("<", [0, -1], 0), line("=", [1, 0], 3)]
        for place in range(2):
            self.assertIs(range_of(place, 2, clash), None)
            self.assertIs(what_is(place, 2, clash), None)

    def test_just_a_little_apart(self):
        others = [line("<=", [1], 3 + LITTLE), line("<=", [-1], -3)]
        self.assertEqual(range_of(0, 1, others), (((3, 1), True), (told(3 + LITTLE), True)))
        self.assertIs(what_is(0, 1, others), None)

    def test_each_place(self):
        others = [line("=", [1, 1, 0], 10), line("<=", [-1, 1, 0], -2), line("<", [0, -1, 0], 0)]
        self.assertEqual(range_of(0, 3, others), (((6, 1), True), ((10, 1), False)))
        self.assertEqual(range_of(1, 3, others), (((0, 1), False), ((4, 1), True)))
        self.assertEqual(range_of(2, 3, others), (None, None))
        pinned = others + [line("<=", [1, 0, 0], 6), line("=", [1, 1, 1], 9)]
        self.assertEqual([what_is(place, 3, pinned) for place in range(3)], [(6, 1), (4, 1), (-1, 1)])

    def test_drawn(self):
        drawn = random.Random(33)
        found = {}
        for turn in range(400):
            many = drawn.randint(1, 3)
            others = draw_others(drawn, many, drawn.randint(0, 8), False)
            place = drawn.randrange(many)
            handed = copy.deepcopy(others)
            answer = range_of(place, many, others)
            self.check_range(place, many, others, answer)
            self.assertEqual(range_of(place, many, others), answer)
            self.assertEqual(others, handed)
            form = None if answer is None else tuple(end if end is None else end[1] for end in answer)
            found[form] = found.get(form, 0) + 1
            single = answer is not None and None not in answer and answer[0][0] == answer[1][0]
            self.assertEqual(what_is(place, many, others), answer[0][0] if single else None)
        for form in (None, (None, None), (True, None), (None, False), (True, True), (False, False)):
            self.assertGreater(found.get(form, 0), 5, form)

    def check_range(self, place, many, others, answer):
        up = unit(place, many)
        down = tuple(told(-part[0]) for part in up)
        if answer is None:
            self.assertEqual(nearest(up, others), ("any",))
            return
        self.assertIs(type(answer), tuple)
        for parts, end, way in ((down, answer[0], -1), (up, answer[1], 1)):
            if end is None:
                self.assertEqual(nearest(parts, others), ("none",))
            else:
                self.assertTrue(is_fraction(end[0]))
                self.assertIs(type(end[1]), bool)
                bound = told(way * Fraction(*end[0]))
                self.assertEqual(nearest(parts, others), ("at", "<=" if end[1] else "<", bound))
                verdict = follows(("<", parts, bound), others)
                self.assertEqual(verdict[0], "breaks" if end[1] else "follows")
                if end[1]:
                    # The point that breaks the line has just this number.
                    self.assertEqual(verdict[1][place], end[0])
                    self.assertTrue(all(keeps(other, verdict[1]) for other in others))


class NearestRightTest(unittest.TestCase):
    def right(self, text, place):
        work = read(text)
        handed = copy.deepcopy(work)
        answer = nearest_right(work, place)
        self.assertEqual(work, handed)
        self.assertEqual(nearest_right(work, place), answer)
        return answer

    def test_at_most(self):
        text = "given x+y = 10\ngiven x-y >= 2\nso y <= 3 from 1 2\nso 2*x > 12 from 2 1\nso x <= 9 from 1 2"
        self.assertEqual(self.right(text, 2), line("<=", [0, 1], 4))
        self.assertEqual(self.right(text, 3), line("<=", [-2, 0], -12))
        self.assertIs(self.right(text, 4), None)

    def test_kinds(self):
        text = "given x < 3\ngiven y <= 4\nso x+y <= 6 from 1 2\nso x+y < 6 from 1 2\nso y < 4 from 1 2"
        self.assertEqual(self.right(text, 2), line("<", [1, 1], 7))
        self.assertEqual(self.right(text, 3), line("<", [1, 1], 7))
        self.assertEqual(self.right(text, 4), line("<=", [0, 1], 4))

    def test_rows_named_alone(self):
        text = "given x <= 3\ngiven x <= 2\nso x <= 1 from 1\nso x <= 1 from 2\nso x <= 0 from 3\nso y <= 1 from 1"
        self.assertEqual(self.right(text, 2), line("<=", [1, 0], 3))
        self.assertEqual(self.right(text, 3), line("<=", [1, 0], 2))
        self.assertEqual(self.right(text, 4), line("<=", [1, 0], 1))
        self.assertIs(self.right(text, 5), None)

    def test_equals(self):
        text = "given x+y = 10\ngiven x-y = 3\ngiven x <= 7\nso x = 6 from 1 2\nso x = 7 from 1\nso x = 7 from 3"
        self.assertEqual(self.right(text, 3), line("=", [1, 0], Fraction(13, 2)))
        self.assertIs(self.right(text, 4), None)
        self.assertIs(self.right(text, 5), None)
        text = "given x+y <= 10\ngiven x+y >= 10\nso 2*x+2*y = 19 from 2 1\nso x+y = 9 from 1\nso x+y = 9 from 2"
        self.assertEqual(self.right(text, 2), line("=", [2, 2], 20))
        self.assertIs(self.right(text, 3), None)
        self.assertIs(self.right(text, 4), None)

    def test_equals_between_two_ends(self):
        self.assertIs(self.right("given x <= 3\ngiven x >= 2\nso x = 2 from 1 2", 2), None)
        self.assertIs(self.right("given x < 3\ngiven x > 2\nso x = 2 from 1 2", 2), None)

    def test_no_parts(self):
        text = "given x <= 3\nso 0 <= -1 from 1\nso 0 < 0 from 1\nso 0 = 4 from 1"
        self.assertEqual(self.right(text, 1), line("<=", [0], 0))
        self.assertEqual(self.right(text, 2), line("<=", [0], 0))
        self.assertEqual(self.right(text, 3), line("=", [0], 0))
        text = "given 0 <= 3\nso 0 <= -1 from 1\nso 0 = 4 from 1"
        self.assertEqual(self.right(text, 1), line("<=", [], 0))
        self.assertEqual(self.right(text, 2), line("=", [], 0))

    def test_told_line_follows(self):
        drawn = random.Random(34)
        found = {}
        for turn in range(400):
            given, others = draw_question(drawn, most=6)
            if follows(given, others)[0] == "follows":
                continue
            rows = [("given", other, ()) for other in others]
            rows.append(("so", given, tuple(range(len(others)))))
            names = list("xyz")[:len(given[1])]
            answer = nearest_right((names, rows, None), len(others))
            form = (given[0], None if answer is None else answer[0])
            found[form] = found.get(form, 0) + 1
            if answer is not None:
                self.assertEqual(answer[1], given[1])
                self.assertEqual(follows(answer, others)[0], "follows")
                if given[0] != "=":
                    self.assertEqual(nearest(given[1], others), ("at", answer[0], answer[2]))
            elif given[0] == "=":
                point = follows(given, others)[1]
                total = sum((Fraction(*a) * Fraction(*b) for a, b in zip(given[1], point)), Fraction(0))
                self.assertEqual(follows(("=", given[1], told(total)), others)[0], "breaks")
            else:
                self.assertEqual(nearest(given[1], others), ("none",))
        for form in (("=", None), ("=", "="), ("<=", None), ("<=", "<="), ("<=", "<"), ("<", None), ("<", "<="),
                     ("<", "<")):
            self.assertGreater(found.get(form, 0), 0, form)


if __name__ == "__main__":
    unittest.main()
