import copy
import unittest

from own_sums import keeps, lists_in, shows
from stepjudge.follows import follows
from stepjudge.judge import first_wrong, grounded, judged
from stepjudge.reader import read

GIVEN = "given x+y = 10\ngiven x-y >= 2\n"
RIGHT = GIVEN + "so 2*x >= 12 from 1 2\nso x >= 6 from 3\nso y <= 4 from 1 4\nask x"
FIRST = GIVEN + "so x >= 7 from 1 2\nso x >= 6 from 1 2\nso y <= 4 from 1 4"
MIDDLE = GIVEN + "so x >= 6 from 1 2\nso y < 4 from 1 2\nso y <= 4 from 1 3"
LAST = GIVEN + "so x >= 6 from 1 2\nso y <= 4 from 1 3\nso y = 4 from 1 4"
NO_LINES = GIVEN + "ask y"
BEHIND = GIVEN + "so x >= 7 from 1 2\nso x >= 6 from 3\nso x >= 6 from 1 2\nso x > 5 from 5\nso x > 5 from 4 5"
NO_NAMES = "given 1 = 1\nso 0 <= 0 from 1\nso 0 < 0 from 1\nso 3 > 2 from 2"
LATE = "given x <= 1\nso x <= 2 from 1\ngiven y <= 2\nso x+y <= 4 from 2 3\nso x+y <= 2 from 1 3\ngiven x = 0"
CLASH = "given x < 1\ngiven x > 1\nso y = 5 from 1 2\nso x = 1 from 1\nso x = x from 4"
TEXTS = (RIGHT, FIRST, MIDDLE, LAST, NO_LINES, BEHIND, NO_NAMES, LATE, CLASH)


def words(work):
    return [(place, verdict[0]) for place, verdict in judged(work)]


class JudgedTest(unittest.TestCase):
    def test_no_lines(self):
        self.assertEqual(judged(read(NO_LINES)), [])
        self.assertEqual(judged(read("given 0 = 1")), [])

    def test_all_right(self):
        self.assertEqual(words(read(RIGHT)), [(2, "follows"), (3, "follows"), (4, "follows")])

    def test_wrong_ones(self):
        self.assertEqual(words(read(FIRST)), [(2, "breaks"), (3, "follows"), (4, "follows")])
        self.assertEqual(words(read(MIDDLE)), [(2, "follows"), (3, "breaks"), (4, "follows")])
        self.assertEqual(words(read(LAST)), [(2, "follows"), (3, "follows"), (4, "breaks")])

    def test_lines_that_name_lines(self):
        # A line is judged by the rows that it names alone, be they wrong themselves.
        self.assertEqual(words(read(BEHIND)), [(2, "breaks"), (3, "follows"), (4, "follows"), (5, "follows"),
                                               (6, "follows")])

    def test_rows_it_doesnt_name(self):
        self.assertEqual(words(read("given x <= 1\ngiven y <= 1\nso x+y <= 2 from 1")), [(2, "breaks")])
        self.assertEqual(words(read("given x <= 1\ngiven y <= 1\nso x+y <= 2 from 2 1")), [(2, "follows")])

    def test_given_behind_lines(self):
        self.assertEqual(words(read(LATE)), [(1, "follows"), (3, "follows"), (4, "breaks")])

    def test_nowhere(self):
        self.assertEqual(words(read(CLASH)), [(2, "follows"), (3, "breaks"), (4, "follows")])

    def test_verdicts(self):
        for text in TEXTS:
            work = read(text)
            rows = work[1]
            places = [place for place, row in enumerate(rows) if row[0] == "so"]
            told = judged(work)
            self.assertIs(type(told), list)
            self.assertEqual([place for place, verdict in told], places)
            for place, verdict in told:
                line = rows[place][1]
                others = [rows[named][1] for named in rows[place][2]]
                self.assertEqual(verdict, follows(line, others))
                if verdict[0] == "follows":
                    self.assertTrue(shows(line, others, verdict[1]))
                else:
                    self.assertTrue(all(keeps(other, verdict[1]) for other in others))
                    self.assertFalse(keeps(line, verdict[1]))

    def test_weights_go_as_told_in_from(self):
        one = judged(read("given x <= 1\ngiven y <= 1\nso 2*x+3*y <= 5 from 1 2"))
        other = judged(read("given x <= 1\ngiven y <= 1\nso 2*x+3*y <= 5 from 2 1"))
        self.assertEqual(one, [(2, ("follows", [(2, 1), (3, 1)]))])
        self.assertEqual(other, [(2, ("follows", [(3, 1), (2, 1)]))])


class FirstWrongTest(unittest.TestCase):
    def test_none(self):
        self.assertIs(first_wrong(read(RIGHT)), None)
        self.assertIs(first_wrong(read(NO_LINES)), None)

    def test_places(self):
        self.assertEqual(first_wrong(read(FIRST)), 2)
        self.assertEqual(first_wrong(read(MIDDLE)), 3)
        self.assertEqual(first_wrong(read(LAST)), 4)
        self.assertEqual(first_wrong(read(NO_NAMES)), 2)
        self.assertEqual(first_wrong(read(LATE)), 4)
        self.assertEqual(first_wrong(read(CLASH)), 3)

    def test_the_first_of_two(self):
        self.assertEqual(first_wrong(read("given x = 1\nso x = 1 from 1\nso x = 2 from 1\nso x = 3 from 1")), 2)


class GroundedTest(unittest.TestCase):
    def test_given_rows(self):
        self.assertEqual(grounded(read(NO_LINES)), [0, 1])
        self.assertEqual(grounded(read("given 0 = 1")), [0])

    def test_all(self):
        self.assertEqual(grounded(read(RIGHT)), [0, 1, 2, 3, 4])

    def test_wrong_lines_and_what_names_them(self):
        self.assertEqual(grounded(read(FIRST)), [0, 1, 3, 4])
        self.assertEqual(grounded(read(MIDDLE)), [0, 1, 2, 4])
        self.assertEqual(grounded(read(LAST)), [0, 1, 2, 3])
        self.assertEqual(grounded(read(LATE)), [0, 1, 2, 3, 5])
        self.assertEqual(grounded(read(CLASH)), [0, 1, 2])
        self.assertEqual(grounded(read(NO_NAMES)), [0, 1, 3])

    def test_grounded_behind_one_that_isnt(self):
        self.assertEqual(grounded(read(BEHIND)), [0, 1, 4, 5])

    def test_a_chain_from_a_wrong_line(self):
        text = "given x = 1\nso x = 2 from 1\nso x = 2 from 2\nso x > 1 from 3\nso x > 0 from 4 1\nso x > 0 from 1"
        self.assertEqual(grounded(read(text)), [0, 5])


class AskersOwnTest(unittest.TestCase):
    def test_nothing_is_changed_and_all_lists_are_new(self):
        for text in TEXTS:
            work = read(text)
            handed = copy.deepcopy(work)
            for ask in (judged, grounded):
                told = ask(work)
                wanted = copy.deepcopy(told)
                found = lists_in(told)
                self.assertEqual(len({id(one) for one in found}), len(found))
                again = ask(work)
                inside = {id(one) for one in lists_in(work) + lists_in(again)}
                self.assertFalse(inside & {id(one) for one in found})
                for one in found:
                    one.append("more")
                self.assertEqual(ask(work), wanted)
                self.assertEqual(again, wanted)
            first_wrong(work)
            self.assertEqual(work, handed)

    def test_a_changed_work_is_judged_as_it_is(self):
        work = read("given x = 1\nso x = 1 from 1")
        self.assertIs(first_wrong(work), None)
        work[1][0] = ("given", ("=", ((1, 1),), (2, 1)), ())
        self.assertEqual(first_wrong(work), 1)
        self.assertEqual(grounded(work), [0])


if __name__ == "__main__":
    unittest.main()
