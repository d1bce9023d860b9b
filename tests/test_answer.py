import copy
import random
import unittest
from fractions import Fraction

from own_sums import is_fraction, line, lists_in, told
from stepjudge.answer import answer
from stepjudge.follows import follows
from stepjudge.nearest import range_of
from stepjudge.reader import read

PAIR = "given x+y = 10\ngiven x-y = 2\n"
THREE = ((3, 1), True)


class AnswerCase(unittest.TestCase):
    def of(self, text):
        """The answer, held against all that is promised of every answer."""
        work = read(text)
        handed = copy.deepcopy(work)
        told_answer = answer(work)
        self.assertEqual(work, handed)
        self.assertEqual(answer(work), told_answer)
        if told_answer is not None:
            self.assertIs(type(told_answer), tuple)
            self.assertIn(told_answer[0], ("open", "is"))
            self.assertEqual(len(told_answer), 2 if told_answer[0] == "open" else 3)
        return told_answer


class NothingAskedTest(AnswerCase):
    def test_nothing(self):
        self.assertIs(self.of("given x = 3"), None)
        self.assertIs(self.of("given 1 = 1"), None)
        self.assertIs(self.of("given x < 3\ngiven x > 3"), None)
        self.assertIs(self.of(PAIR + "so x = 6 from 1 2"), None)


class OpenTest(AnswerCase):
    def test_each_form_of_a_range(self):
        for rows, ends in (
            ("given x = x", (None, None)),
            ("given x >= 3", (THREE, None)),
            ("given x > 3", (((3, 1), False), None)),
            ("given x <= 3", (None, THREE)),
            ("given x < 3", (None, ((3, 1), False))),
            ("given x >= -1/2\ngiven x <= 3", (((-1, 2), True), THREE)),
            ("given x > -1/2\ngiven x <= 3", (((-1, 2), False), THREE)),
            ("given x >= -1/2\ngiven x < 3", (((-1, 2), True), ((3, 1), False))),
            ("given x > -1/2\ngiven x < 3", (((-1, 2), False), ((3, 1), False))),
        ):
            self.assertEqual(self.of(rows + "\nask x"), ("open", ends))

    def test_nowhere(self):
        for rows in ("given x < 3\ngiven x > 3", "given x = 3\ngiven x = 4", "given x = 3\ngiven 0 = 1",
                     "given x = 3\ngiven y < 0\nso x = 3 from 1\ngiven y > 0"):
            self.assertEqual(self.of(rows + "\nask x"), ("open", None))

    def test_lines_dont_count(self):
        # A wrong line tells a number, but the given rows don't.
        self.assertEqual(self.of("given x <= 3\nso x = 3 from 1\nask x"), ("open", (None, THREE)))
        self.assertEqual(self.of("given x <= 5\nso x <= 3 from 1\nask x"), ("open", (None, ((5, 1), True))))

    def test_another_is_one_number(self):
        text = "given x = 3\ngiven y <= x\nso x = 3 from 1\nask "
        self.assertEqual(self.of(text + "y"), ("open", (None, THREE)))
        self.assertEqual(self.of(text + "x"), ("is", (3, 1), [0]))

    def test_each_place(self):
        rows = "given a >= 1\ngiven b <= 2\ngiven c > 3\nask "
        self.assertEqual(self.of(rows + "a"), ("open", (((1, 1), True), None)))
        self.assertEqual(self.of(rows + "b"), ("open", (None, ((2, 1), True))))
        self.assertEqual(self.of(rows + "c"), ("open", (((3, 1), False), None)))


class ReachedTest(AnswerCase):
    def test_by_a_given_row_alone(self):
        self.assertEqual(self.of("given x = 3\nask x"), ("is", (3, 1), [0]))
        self.assertEqual(self.of("given 2*x = 3\nask x"), ("is", (3, 2), [0]))
        self.assertEqual(self.of("given 0 = 4*x+2\nask x"), ("is", (-1, 2), [0]))
        self.assertEqual(self.of("given x = 0\nask x"), ("is", (0, 1), [0]))
        self.assertEqual(self.of("given y = 1\ngiven x+y = 5\ngiven x = 4\nask x"), ("is", (4, 1), [2]))

    def test_the_asked_one_alone(self):
        text = "given a = 1\ngiven b = 2\ngiven c = 3\nask "
        for place, name in enumerate("abc"):
            self.assertEqual(self.of(text + name), ("is", (place + 1, 1), [place]))

    def test_by_a_line(self):
        self.assertEqual(self.of(PAIR + "so x = 6 from 1 2\nask x"), ("is", (6, 1), [0, 1, 2]))
        self.assertEqual(self.of(PAIR + "so 2*x = 12 from 2 1\nask x"), ("is", (6, 1), [0, 1, 2]))
        self.assertEqual(self.of(PAIR + "so 2*x = 12 from 2 1\nso x = 6 from 3\nask x"), ("is", (6, 1), [0, 1, 2]))
        text = "given x <= 3\ngiven y = 1\ngiven x >= 3\nso x = 3 from 3 1\nask x"
        self.assertEqual(self.of(text), ("is", (3, 1), [0, 2, 3]))

    def test_through_lines(self):
        text = PAIR + "so 2*x = 12 from 1 2\nso y = 4 from 3 1\nask y"
        self.assertEqual(self.of(text), ("is", (4, 1), [0, 1, 2, 3]))
        # Row 1 alone names row 0, and is named itself.
        text = "given x+y = 3\nso 2*x+2*y = 6 from 1\ngiven y = 1\nso 2*x = 4 from 2 3\nask x"
        self.assertEqual(self.of(text), ("is", (2, 1), [0, 1, 2, 3]))

    def test_rows_named_but_not_needed_count(self):
        text = "given y = 1\ngiven 2*x <= 6\ngiven -x <= -3\nso x = 3 from 1 2 3\nask x"
        self.assertEqual(self.of(text), ("is", (3, 1), [0, 1, 2, 3]))


class FewestTest(AnswerCase):
    def test_unlike_length(self):
        text = PAIR + "so 2*x = 12 from 1 2\nso y = 4 from 3 1\nso y = 4 from 1 2\nask y"
        self.assertEqual(self.of(text), ("is", (4, 1), [0, 1, 4]))
        text = PAIR + "so y = 4 from 1 2\nso 2*x = 12 from 1 2\nso y = 4 from 4 1\nask y"
        self.assertEqual(self.of(text), ("is", (4, 1), [0, 1, 2]))
        text = PAIR + "so y = 4 from 1 2\ngiven y = 4\nask y"
        self.assertEqual(self.of(text), ("is", (4, 1), [3]))

    def test_like_length(self):
        text = "given 2*y <= 8\ngiven y >= 4\ngiven y <= 4\nso 2*y = 8 from 2 1\nso y = 4 from 2 3\nask y"
        self.assertEqual(self.of(text), ("is", (4, 1), [0, 1, 3]))
        text = "given 2*y <= 8\ngiven y >= 4\ngiven y <= 4\nso y = 4 from 2 3\nso 2*y = 8 from 2 1\nask y"
        self.assertEqual(self.of(text), ("is", (4, 1), [1, 2, 3]))
        self.assertEqual(self.of("given y = 4\ngiven 2*y = 8\nask y"), ("is", (4, 1), [0]))

    def test_rows_in_all_are_counted_not_those_named(self):
        # Row 6 names two rows, but comes to six; row 8 names three, and comes to four.
        text = PAIR + "so 2*x = 12 from 1 2\nso -y <= -4 from 3 1\nso y <= 4 from 3 1\nso y = 4 from 4 5\n"
        self.assertEqual(self.of(text + "given y <= 9\nso y = 4 from 1 2 7\nask y"), ("is", (4, 1), [0, 1, 6, 7]))

    def test_where_ways_meet(self):
        text = PAIR + "so 2*x = 12 from 1 2\nso y <= 4 from 3 1\nso y >= 4 from 3 1\nso y = 4 from 5 4\nask y"
        self.assertEqual(self.of(text), ("is", (4, 1), [0, 1, 2, 3, 4, 5]))
        text = "given x = 3\nso x <= 3 from 1\nso x >= 3 from 1 2\nso x+x = 6 from 3 2 1\nask x"
        self.assertEqual(self.of(text), ("is", (3, 1), [0]))

    def test_a_row_met_twice_counts_once(self):
        # Row 5 comes to rows 1 to 5; counted anew on each way, these would be more than the six of row 9.
        text = ("given x <= 3\ngiven x >= 3\nso x <= 4 from 1 2\nso x <= 5 from 1 2 3\nso x = 3 from 4 3 2 1\n"
                "given y = 1\ngiven y <= 1\ngiven y >= 1\nso x = 3 from 1 2 6 7 8\nask x")
        self.assertEqual(self.of(text), ("is", (3, 1), [0, 1, 2, 3, 4]))


class UnreachedTest(AnswerCase):
    def test_no_row_at_all(self):
        self.assertEqual(self.of(PAIR + "ask x"), ("is", (6, 1), None))

    def test_another_part_beside(self):
        self.assertEqual(self.of(PAIR + "so 2*x+y = 16 from 1 2\nask x"), ("is", (6, 1), None))
        self.assertEqual(self.of(PAIR + "so y = 4 from 1 2\nask x"), ("is", (6, 1), None))

    def test_asked_part_0(self):
        self.assertEqual(self.of(PAIR + "so x-x = 0 from 1\nso 0 = 0 from 2\nask x"), ("is", (6, 1), None))
        self.assertEqual(self.of(PAIR + "given 0 = 0\nask y"), ("is", (4, 1), None))

    def test_at_most_alone(self):
        text = PAIR + "so x <= 6 from 1 2\nso x >= 6 from 1 2\nask x"
        self.assertEqual(self.of(text), ("is", (6, 1), None))
        self.assertEqual(self.of("given x <= 6\ngiven x >= 6\nask x"), ("is", (6, 1), None))

    def test_not_grounded(self):
        # The wrong line tells the very number that the given rows do.
        self.assertEqual(self.of(PAIR + "so x = 6 from 1\nask x"), ("is", (6, 1), None))
        self.assertEqual(self.of(PAIR + "so x = 6 from 1\nso 2*x = 12 from 3\nask x"), ("is", (6, 1), None))
        self.assertEqual(self.of(PAIR + "so x = 7 from 1 2\nask x"), ("is", (6, 1), None))

    def test_passed_over_where_another_is_grounded(self):
        text = PAIR + "so x = 6 from 1\nso x = 6 from 2 1\nask x"
        self.assertEqual(self.of(text), ("is", (6, 1), [0, 1, 3]))
        text = PAIR + "so x <= 6 from 1\nso x = 6 from 2 3\nso 2*x = 12 from 1 2\nso x = 6 from 5\nask x"
        self.assertEqual(self.of(text), ("is", (6, 1), [0, 1, 4]))


def draw_rows(drawn):
    """Rows of a work in which much is right, with ways of many lengths."""
    rows = ["given x+y = 10", "given x-y = 2", "given x <= 6"][:drawn.randint(2, 3)]
    told_lines = ["x = 6", "2*x = 12", "y = 4", "x+2*y = 14", "x <= 6", "x >= 6", "0 = 0", "x = 7", "y <= 4", "3*y = 12"]
    for turn in range(drawn.randint(0, 9)):
        count = drawn.randint(1, min(4, len(rows)))
        numbers = drawn.sample(range(1, len(rows) + 1), count)
        rows.append(f"so {drawn.choice(told_lines)} from {' '.join(str(number) for number in numbers)}")
    return rows + ["ask " + drawn.choice("xy")]


def own_way(rows, place):
    found = {place}
    for named in rows[place][2]:
        found |= own_way(rows, named)
    return found


def own_grounded(rows, place):
    word, given, froms = rows[place]
    if word == "given":
        return True
    verdict = follows(given, [rows[named][1] for named in froms])
    return verdict[0] == "follows" and all(own_grounded(rows, named) for named in froms)


def own_places(work):
    names, rows, asked = work
    ways = []
    for place, row in enumerate(rows):
        kind, parts, bound = row[1]
        alone = [one for one, part in enumerate(parts) if part != (0, 1)] == [asked]
        if kind == "=" and alone and own_grounded(rows, place):
            ways.append((len(own_way(rows, place)), place))
    return sorted(own_way(rows, min(ways)[1])) if ways else None


class DrawnTest(AnswerCase):
    def test_drawn(self):
        drawn = random.Random(61)
        sizes = {}
        for turn in range(400):
            rows = draw_rows(drawn)
            work = read("\n".join(rows))
            wanted = own_places(work)
            number = (6, 1) if work[2] == 0 else (4, 1)
            self.assertEqual(self.of("\n".join(rows)), ("is", number, wanted), rows)
            size = None if wanted is None else len(wanted)
            sizes[size] = sizes.get(size, 0) + 1
        for size in (None, 3, 4, 5):
            self.assertGreater(sizes.get(size, 0), 4, sizes)

    def test_great_numbers(self):
        part = Fraction(10 ** 30 - 1, 7)
        bound = Fraction(1 - 10 ** 29, 10 ** 30 - 3)
        given = line("=", [part, 0], bound)
        work = (["x", "y"], [("given", given, ())], 0)
        self.assertEqual(answer(work), ("is", told(bound / part), [0]))
        self.assertTrue(is_fraction(answer(work)[1]))
        other = (["x", "y"], [("given", ("<", given[1], given[2]), ())], 0)
        self.assertEqual(answer(other), ("open", range_of(0, 2, [("<", given[1], given[2])])))
        self.assertEqual(answer(other), ("open", (None, (told(bound / part), False))))


class AskersOwnTest(unittest.TestCase):
    def test_a_new_list_each_time(self):
        work = read(PAIR + "so x = 6 from 1 2\nask x")
        handed = copy.deepcopy(work)
        first = answer(work)
        self.assertEqual(len(lists_in(first)), 1)
        self.assertNotIn(id(first[2]), [id(one) for one in lists_in(work)])
        first[2].append(7)
        self.assertEqual(answer(work), ("is", (6, 1), [0, 1, 2]))
        self.assertEqual(work, handed)

    def test_a_changed_work_is_answered_as_it_is(self):
        work = read("given x = 3\nask x")
        self.assertEqual(answer(work), ("is", (3, 1), [0]))
        work[1][0] = ("given", ("=", ((1, 1),), (5, 1)), ())
        self.assertEqual(answer(work), ("is", (5, 1), [0]))
        work[1].append(("given", ("<", ((1, 1),), (5, 1)), ()))
        self.assertEqual(answer(work), ("open", None))


if __name__ == "__main__":
    unittest.main()
