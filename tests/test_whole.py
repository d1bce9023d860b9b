"""What is promised over the whole program: by sums of the tests' own, and of lists and refusals everywhere."""

import copy
import inspect
import itertools
import os
import pathlib
import random
import subprocess
import sys
import unittest
from fractions import Fraction

from own_sums import draw_question, draw_rows, keeps, line, lists_in, own_follows, own_range, shows, told
from stepjudge import answer, desk, errors, follows, fractions, judge, nearest, needed, points, reader, texts

TOP = pathlib.Path(__file__).resolve().parent.parent
INTERFACE = (
    (fractions, "make", 2), (fractions, "plus", 2), (fractions, "minus", 2), (fractions, "times", 2),
    (fractions, "over", 2), (fractions, "below", 2), (fractions, "shown", 1), (reader, "is_name", 1),
    (reader, "read", 1), (points, "holds", 2), (follows, "follows", 2), (follows, "is_right", 3),
    (judge, "judged", 1), (judge, "first_wrong", 1), (judge, "grounded", 1), (nearest, "nearest", 2),
    (nearest, "range_of", 3), (nearest, "what_is", 3), (nearest, "nearest_right", 2), (needed, "needed", 2),
    (answer, "answer", 1), (texts, "shown_line", 2), (desk, "Desk", 0), (desk.Desk, "say", 2),
)
WHOLE = ("given x+y = 10\ngiven x-y >= 2\nso x >= 6 from 1 2\nso y <= 3 from 1 3\ngiven x = 6\nso y = 4 from 1 5\n"
         "so 2*x+2*y = 20 from 1\nask y")


def with_ends(ends):
    """A range of the tests' own, as the program tells it."""
    if ends is None:
        return None
    return tuple(None if end is None else (told(end[0]), end[1]) for end in ends)


def unit(place, many):
    return tuple((1, 1) if place == one else (0, 1) for one in range(many))


def named(work, place):
    return [work[1][one][1] for one in work[1][place][2]]


def given_lines(work):
    return [row[1] for row in work[1] if row[0] == "given"]


def all_told(work):
    """Everything that the program tells of a work."""
    answers = [judge.judged(work), judge.first_wrong(work), judge.grounded(work), answer.answer(work)]
    for place, row in enumerate(work[1]):
        answers.append(texts.shown_line(work[0], row[1]))
        if row[0] == "so":
            answers.append(follows.follows(row[1], named(work, place)))
            answers.append(needed.needed(row[1], named(work, place)))
            answers.append(nearest.nearest(row[1][1], named(work, place)))
            if answers[-3][0] == "breaks":
                answers.append(nearest.nearest_right(work, place))
    for place in range(len(work[0])):
        answers.append(nearest.range_of(place, len(work[0]), given_lines(work)))
        answers.append(nearest.what_is(place, len(work[0]), given_lines(work)))
    return answers


def desk_told(rows):
    """Everything that a desk tells of the rows, refusals by their class."""
    mine = desk.Desk()
    answers = [mine.say("row " + row) for row in rows]
    questions = ["read", "judge", "answer", "range x", "range y", "range total", "range z", "clear", "near 0"]
    questions.extend(f"{word} {number}" for word in ("near", "need") for number in range(1, 13))
    for question in questions:
        try:
            answers.append(mine.say(question))
        except errors.StepError as refusal:
            answers.append(type(refusal).__name__)
    return answers


class InterfaceTest(unittest.TestCase):
    def test_names_and_arguments(self):
        for home, name, many in INTERFACE:
            self.assertEqual(len(inspect.signature(getattr(home, name)).parameters), many, name)


class PromiseTest(unittest.TestCase):
    def test_lines_by_own_sums(self):
        drawn = random.Random(91)
        found = {}
        for turn in range(500):
            given, others = draw_question(drawn, most=6)
            word = self.check_verdict(given, others)
            self.check_nearest(given[1], others)
            for place in range(len(given[1])):
                self.check_range(place, len(given[1]), others)
            found[(word, given[0])] = found.get((word, given[0]), 0) + 1
        self.assertEqual(len(found), 6)
        self.assertGreater(min(found.values()), 20)

    def check_verdict(self, given, others):
        word, shown = follows.follows(given, others)
        self.assertEqual(word == "follows", own_follows(given, others), (given, others))
        if word == "follows":
            self.assertTrue(shows(given, others, shown))
            self.assertIs(follows.is_right(given, others, shown), True)
        else:
            self.assertTrue(all(keeps(other, shown) for other in others))
            self.assertFalse(keeps(given, shown))
        return word

    def check_nearest(self, parts, others):
        ends = own_range(parts, others)
        wanted = ("any",)
        if ends is not None:
            wanted = ("none",) if ends[1] is None else ("at", "<=" if ends[1][1] else "<", told(ends[1][0]))
        self.assertEqual(nearest.nearest(parts, others), wanted, (parts, others))

    def check_range(self, place, many, others):
        ends = own_range(unit(place, many), others)
        self.assertEqual(nearest.range_of(place, many, others), with_ends(ends), (place, others))
        single = ends is not None and ends[0] is not None and ends[0] == ends[1]
        self.assertEqual(nearest.what_is(place, many, others), told(ends[0][0]) if single else None)

    def test_no_paper_is_let_by_for_a_line_that_doesnt_follow(self):
        drawn = random.Random(92)
        tried = 0
        for turn in range(400):
            given, others = draw_question(drawn, most=3)
            if not own_follows(given, others):
                for weights in itertools.product([(-1, 1), (0, 1), (1, 3), (1, 1), (2, 1)], repeat=len(others)):
                    tried = tried + 1
                    paper = list(weights)
                    papers = (paper, [(-n, d) for n, d in weights]) if given[0] == "=" else paper
                    self.assertIs(follows.is_right(given, others, papers), False)
        self.assertGreater(tried, 1000)

    def test_needed_rows_are_enough_and_no_fewer_are(self):
        drawn = random.Random(93)
        for turn in range(150):
            given, others = draw_question(drawn, most=5)
            enough = [list(choice) for size in range(len(others) + 1)
                      for choice in itertools.combinations(range(len(others)), size)
                      if own_follows(given, [others[place] for place in choice])]
            self.assertEqual(needed.needed(given, others), enough[0] if enough else None, (given, others))

    def test_works_by_own_sums(self):
        drawn = random.Random(94)
        reached = 0
        for turn in range(400):
            work = reader.read("\n".join(draw_rows(drawn)))
            told_answer = answer.answer(work)
            if work[2] is None:
                self.assertIs(told_answer, None)
                continue
            ends = own_range(unit(work[2], len(work[0])), given_lines(work))
            if ends is None or ends[0] is None or ends[0] != ends[1]:
                self.assertEqual(told_answer, ("open", with_ends(ends)))
                continue
            self.assertEqual(told_answer[:2], ("is", told(ends[0][0])))
            if told_answer[2] is not None:
                reached = reached + 1
                self.check_reached(work, told_answer)
        self.assertGreater(reached, 5)

    def check_reached(self, work, told_answer):
        word, number, places = told_answer
        names, rows, asked = work
        self.assertEqual(places, sorted(set(places)))
        for place in places:
            # Every row told is given, or follows from rows that are told, too.
            if rows[place][0] == "so":
                self.assertTrue(own_follows(rows[place][1], named(work, place)))
                self.assertLessEqual(set(rows[place][2]), set(places))
        kind, parts, bound = rows[places[-1]][1]
        self.assertEqual(kind, "=")
        self.assertEqual([place for place, part in enumerate(parts) if part != (0, 1)], [asked])
        self.assertEqual(Fraction(*bound) / Fraction(*parts[asked]), Fraction(*number))
        alone = [rows[place][1] for place in places if rows[place][0] == "given"]
        self.assertTrue(own_follows(rows[places[-1]][1], alone))


class AskersOwnTest(unittest.TestCase):
    def works(self):
        drawn = random.Random(95)
        yield reader.read(WHOLE)
        for turn in range(60):
            yield reader.read("\n".join(draw_rows(drawn)))

    def test_nothing_is_changed_and_all_lists_are_new(self):
        for work in self.works():
            handed = copy.deepcopy(work)
            first = all_told(work)
            wanted = copy.deepcopy(first)
            second = all_told(work)
            self.assertEqual(work, handed)
            found = [one for value in first + second + [work] for one in lists_in(value)]
            self.assertEqual(len({id(one) for one in found}), len(found))
            for value in first:
                for one in lists_in(value):
                    one.clear()
            self.assertEqual(second, wanted)
            self.assertEqual(all_told(work), wanted)
            self.assertEqual(work, handed)

    def test_the_desk_keeps_nothing_of_the_asker(self):
        mine = desk.Desk()
        for row in WHOLE.split("\n"):
            mine.say("row " + row)
        mine.say("read")
        work = reader.read(WHOLE)
        work[0].clear()
        work[1].clear()
        self.assertEqual(mine.say("answer"), "4 1 5 6")

    def test_what_was_told_is_handed_in(self):
        drawn = random.Random(96)
        for turn in range(6):
            given, others = draw_question(drawn, True, 5)
            bound = nearest.nearest(given[1], others)
            if bound[0] == "at":
                tight = (bound[1], given[1], bound[2])
                word, paper = follows.follows(tight, others)
                self.assertEqual(word, "follows")
                self.assertIs(follows.is_right(tight, others, paper), True)
                self.assertIsNotNone(needed.needed(tight, others))
                self.assertEqual(nearest.nearest(given[1], [tight]), bound)
                names = ["x", "y", "z"][:len(given[1])]
                work = (names, [("given", tight, ()), ("so", tight, (0,))], 0 if names else None)
                self.assertIs(judge.first_wrong(work), None)
                if names:
                    self.assertEqual(answer.answer(work)[0], "open")
                self.assertTrue(texts.shown_line(names, tight).endswith(fractions.shown(bound[2])))


class SameTest(unittest.TestCase):
    def test_the_desk_answers_the_same(self):
        drawn = random.Random(97)
        for turn in range(60):
            rows = draw_rows(drawn)
            self.assertEqual(desk_told(rows), desk_told(rows))

    def test_the_same_in_every_run(self):
        program = ("import random, test_whole\n"
                   "drawn = random.Random(98)\n"
                   "for turn in range(20):\n"
                   "    rows = test_whole.draw_rows(drawn)\n"
                   "    print(test_whole.all_told(test_whole.reader.read(chr(10).join(rows))))\n"
                   "    print(test_whole.desk_told(rows))\n")
        printed = []
        for seed in ("0", "1", "2"):
            around = dict(os.environ, PYTHONHASHSEED=seed, PYTHONPATH=os.pathsep.join([str(TOP), str(TOP / "tests")]))
            run = subprocess.run([sys.executable, "-c", program], env=around, capture_output=True, text=True, check=True)
            printed.append(run.stdout)
        self.assertEqual(len(printed[0].split("\n")), 41)
        self.assertEqual(printed, [printed[0]] * 3)


class RefusalsTest(unittest.TestCase):
    def test_each_by_a_class_of_the_interface(self):
        names = ["TooLong", "NoForm", "NoPlace", "Full", "NoRow", "NoName", "NoShape", "NoneYet", "NotSo"]
        found = {}
        rows = WHOLE.split("\n")
        for told_rows in (rows, rows * 2, rows * 6, [], ["given a+b+c = d"], ["given x = 1", "ask y"],
                          ["given x = 1", "so x = 1 from 2"]):
            for word in desk_told(told_rows):
                if word in names:
                    found[word] = True
        self.assertEqual(sorted(found), sorted(names))

    def test_the_document_on_one_page(self):
        mine = desk.Desk()
        for row in WHOLE.split("\n"):
            self.assertEqual(mine.say("row " + row), "ok")
        self.assertEqual(mine.say("read"), "rows 3 4")
        self.assertEqual(mine.say("judge").split(" ")[:2], ["wrong", "4"])
        for row, text in (("near 4", "y <= 4"), ("need 3", "1 2"), ("need 6", "1 5"), ("need 7", "1"),
                          ("range x", "6 6"), ("range y", "4 4"), ("answer", "4 1 5 6")):
            self.assertEqual(mine.say(row), text, row)


class OwnSumsTest(unittest.TestCase):
    """The tests' own elimination, where its answer is plain."""

    def test_ranges(self):
        one = ((1, 1),)
        self.assertEqual(own_range(one, []), (None, None))
        self.assertEqual(own_range(one, [line("<", [2], 3)]), (None, (Fraction(3, 2), False)))
        self.assertEqual(own_range(one, [line("=", [-2], 3)]), ((Fraction(-3, 2), True), (Fraction(-3, 2), True)))
        self.assertIs(own_range(one, [line("<", [1], 3), line("<=", [-1], -3)]), None)
        self.assertIs(own_range((), [line("<", [], 0)]), None)
        self.assertEqual(own_range(((1, 1), (1, 1)), [line("<=", [1, 0], 2), line("<", [0, 1], 3)]),
                         (None, (5, False)))


if __name__ == "__main__":
    unittest.main()
