import random
import unittest
from fractions import Fraction

from own_sums import draw_rows, keeps
from stepjudge.answer import answer
from stepjudge.desk import Desk
from stepjudge.errors import NoForm, NotSo, StepError
from stepjudge.judge import first_wrong, judged
from stepjudge.nearest import nearest_right, range_of
from stepjudge.needed import needed
from stepjudge.reader import read
from stepjudge.texts import shown_line

PAIR = ["given x+y = 10", "given x-y >= 2"]
RIGHT = PAIR + ["so x >= 6 from 1 2", "so y <= 4 from 1 3"]
WRONG = PAIR + ["so x >= 6 from 1 2", "so y <= 3 from 1 3", "so x = 8 from 1 2"]


def desk_of(rows):
    desk = Desk()
    for row in rows:
        desk.say("row " + row)
    return desk


def desk_with(rows):
    """A desk that has read the rows."""
    desk = desk_of(rows)
    desk.say("read")
    return desk


class DeskCase(unittest.TestCase):
    def says(self, desk, row, text):
        told = desk.say(row)
        self.assertIs(type(told), str)
        self.assertEqual(told, text, row)


class RowsTest(DeskCase):
    def test_row_and_clear(self):
        desk = Desk()
        for row in ["row given x = 1", "row ", "row  ", "row row", "row given x = 1 ", "row nonsense, ~!", "clear",
                    "clear", "row ask x", "clear"]:
            self.says(desk, row, "ok")

    def test_any_sign_but_a_line_feed(self):
        desk = Desk()
        for code in range(32, 127):
            self.says(desk, "row " + chr(code), "ok")
            self.says(desk, "row " + chr(code) * 3, "ok")
            self.says(desk, "row given" + chr(code), "ok")

    def test_the_row_is_kept_as_it_is(self):
        for row in ["", " ", " given x = 1", "given x = 1 ", "given  x = 1", "row given x = 1"]:
            desk = desk_of(["given x = 1", row])
            with self.assertRaises(NoForm):
                desk.say("read")
        self.says(desk_of(["given x = 1"]), "read", "rows 1 0")

    def test_counts(self):
        self.says(desk_of(["given x = 1"]), "read", "rows 1 0")
        self.says(desk_of(["given x = 1", "ask x"]), "read", "rows 1 0")
        self.says(desk_of(["given x = 1", "so x = 1 from 1"]), "read", "rows 1 1")
        self.says(desk_of(WRONG + ["given y < 7", "ask y"]), "read", "rows 3 3")
        most = ["given x = 1"] * 8 + ["so x = 1 from 1"] * 12 + ["ask x"]
        self.says(desk_of(most), "read", "rows 8 12")

    def test_told_on_and_read_again(self):
        desk = Desk()
        self.says(desk, "row given x <= 5", "ok")
        self.says(desk, "read", "rows 1 0")
        self.says(desk, "range x", "- 5")
        self.says(desk, "row given x >= 2", "ok")
        # What is told on counts from the next read.
        self.says(desk, "range x", "- 5")
        self.says(desk, "read", "rows 2 0")
        self.says(desk, "range x", "2 5")
        self.says(desk, "read", "rows 2 0")
        self.says(desk, "range x", "2 5")

    def test_a_work_stays_behind_clear(self):
        desk = desk_with(RIGHT)
        self.says(desk, "clear", "ok")
        self.says(desk, "judge", "right")
        self.says(desk, "range y", "- 4")
        self.says(desk, "row given z = 7", "ok")
        self.says(desk, "judge", "right")
        self.says(desk, "read", "rows 1 0")
        self.says(desk, "range z", "7 7")

    def test_a_work_stays_behind_a_refused_read(self):
        desk = desk_with(["given x = 3", "ask x"])
        self.says(desk, "row nonsense", "ok")
        for turn in range(2):
            with self.assertRaises(NoForm):
                desk.say("read")
            self.says(desk, "answer", "3 1")
        self.says(desk, "clear", "ok")
        with self.assertRaises(NoForm):
            desk.say("read")
        self.says(desk, "answer", "3 1")
        self.says(desk, "row given x = 4", "ok")
        self.says(desk, "read", "rows 1 0")
        self.says(desk, "answer", "nothing asked")

    def test_read_of_no_rows(self):
        desk = Desk()
        with self.assertRaises(NoForm):
            desk.say("read")
        self.says(desk, "row given x = 1", "ok")
        self.says(desk, "read", "rows 1 0")

    def test_desks_are_apart(self):
        one = Desk()
        other = Desk()
        self.says(one, "row given x = 1", "ok")
        self.says(one, "read", "rows 1 0")
        with self.assertRaises(NoForm):
            other.say("read")
        with self.assertRaises(StepError):
            other.say("judge")
        self.says(one, "range x", "1 1")


class JudgeTest(DeskCase):
    def test_right(self):
        self.says(desk_with(RIGHT), "judge", "right")
        self.says(desk_with(PAIR), "judge", "right")
        self.says(desk_with(RIGHT + ["ask x"]), "judge", "right")

    def test_wrong_at_the_one_point(self):
        rows = ["given x+y = 10", "given x-y = 3", "so x = 6 from 1 2"]
        self.says(desk_with(rows), "judge", "wrong 3 13/2 7/2")
        self.says(desk_with(["given x = -1", "so x >= 0 from 1"]), "judge", "wrong 2 -1")
        self.says(desk_with(["given a = 1", "given b = -2/3", "given c = 0", "so a+b+c = 0 from 3 2 1"]), "judge",
                  "wrong 4 1 -2/3 0")

    def test_the_first_wrong_one(self):
        rows = ["given x = 1", "so x = 1 from 1", "so x = 2 from 1", "so x = 3 from 1"]
        self.says(desk_with(rows), "judge", "wrong 3 1")
        many = ["given x = 1"] * 8 + ["so x = 1 from 1"] * 11 + ["so x < 1 from 8"]
        self.says(desk_with(many), "judge", "wrong 20 1")

    def test_the_point_of_the_verdict(self):
        work = read("\n".join(WRONG))
        point = judged(work)[1][1][1]
        words = desk_with(WRONG).say("judge").split(" ")
        self.assertEqual(words, ["wrong", "4"] + [str(Fraction(*number)) for number in point])
        # No point stands behind, where the work has no names.
        self.says(desk_with(["given 1 = 1", "so 0 < 0 from 1"]), "judge", "wrong 2")
        self.says(desk_with(["given 1 = 1", "so 0 <= 0 from 1"]), "judge", "right")


class NearTest(DeskCase):
    def test_a_line(self):
        desk = desk_with(WRONG)
        self.says(desk, "near 4", "y <= 4")
        rows = PAIR + ["so 2*x > 12 from 1 2", "so x-y > 3 from 1 2", "so 1/2*y <= 1 from 2 1"]
        desk = desk_with(rows)
        self.says(desk, "near 3", "-2*x <= -12")
        self.says(desk, "near 4", "-x+y <= -2")
        self.says(desk, "near 5", "1/2*y <= 2")
        self.says(desk_with(["given x < 1/3", "so x <= -1 from 1"]), "near 2", "x < 1/3")
        self.says(desk_with(["given x+y = 10", "given x-y = 3", "so 2*x = 12 from 1 2"]), "near 3", "2*x = 13")

    def test_none(self):
        self.says(desk_with(WRONG), "near 5", "none")
        self.says(desk_with(["given x <= 3", "so x >= 3 from 1"]), "near 2", "none")
        self.says(desk_with(["given x <= 3", "so y <= 3 from 1"]), "near 2", "none")

    def test_no_names(self):
        desk = desk_with(["given 1 = 1", "so 0 < 0 from 1", "so 1 = 2 from 1"])
        self.says(desk, "near 2", "0 <= 0")
        self.says(desk, "near 3", "0 = 0")

    def test_the_told_line_is_right(self):
        desk = desk_with(WRONG)
        rows = list(WRONG)
        rows[3] = f"so {desk.say('near 4')} from 1 3"
        self.assertEqual(desk_with(rows[:4]).say("judge"), "right")


class NeedTest(DeskCase):
    def test_in_the_order_of_its_from(self):
        rows = ["given x <= 1", "given y <= 2", "given x+y <= 9"]
        self.says(desk_with(rows + ["so x+y <= 3 from 1 2 3"]), "need 4", "1 2")
        self.says(desk_with(rows + ["so x+y <= 3 from 3 2 1"]), "need 4", "2 1")
        self.says(desk_with(rows + ["so x+y <= 3 from 2 3 1"]), "need 4", "2 1")
        self.says(desk_with(rows + ["so x+y <= 9 from 2 3 1"]), "need 4", "3")

    def test_the_first_by_its_from(self):
        # Each of the two is enough, so the one that from tells first.
        rows = ["given x <= 1", "given 2*x <= 2"]
        self.says(desk_with(rows + ["so x <= 1 from 1 2"]), "need 3", "1")
        self.says(desk_with(rows + ["so x <= 1 from 2 1"]), "need 3", "2")

    def test_lines_and_numbers_of_two_figures(self):
        rows = ["given x <= 1"] * 8 + ["so x <= 2 from 1"] * 2
        rows += ["so x <= 3 from 10 9", "so x <= 2 from 9 11 10", "so x <= 1 from 12 8 7"]
        desk = desk_with(rows)
        self.says(desk, "need 11", "10")
        self.says(desk, "need 12", "9")
        self.says(desk, "need 13", "8")

    def test_six(self):
        rows = ["given x <= 0", "given y <= 0", "given z <= 0", "given x >= 0", "given y >= 0", "given z >= 0"]
        desk = desk_with(rows + ["so x+y+z = 0 from 6 1 5 2 4 3"])
        self.says(desk, "need 7", "6 1 5 2 4 3")

    def test_none(self):
        desk = desk_with(["given x = 1", "so 0 <= 1 from 1", "so x-x = 0 from 1 2"])
        self.says(desk, "need 2", "none")
        self.says(desk, "need 3", "none")
        self.says(desk_with(["given 1 = 1", "so 0 = 0 from 1"]), "need 2", "none")

    def test_nowhere(self):
        desk = desk_with(["given x < 1", "given y = 2", "given x > 1", "so y = 3 from 1 2 3", "so 0 = 1 from 3 2 1"])
        self.says(desk, "need 4", "1 3")
        self.says(desk, "need 5", "3 1")


class RangeTest(DeskCase):
    def test_each_end(self):
        for rows, text in (
            (["given x = x"], "- -"),
            (["given x >= 2"], "2 -"),
            (["given x > 2"], "2< -"),
            (["given x <= 5"], "- 5"),
            (["given x < 5"], "- <5"),
            (["given x >= 2", "given x <= 5"], "2 5"),
            (["given x > 2", "given x <= 5"], "2< 5"),
            (["given x >= 2", "given x < 5"], "2 <5"),
            (["given x > -5/2", "given x < -1/3"], "-5/2< <-1/3"),
            (["given 3*x = 2"], "2/3 2/3"),
            (["given x = 0"], "0 0"),
        ):
            self.says(desk_with(rows), "range x", text)

    def test_nowhere(self):
        self.says(desk_with(["given x < 2", "given x > 2"]), "range x", "nowhere")
        self.says(desk_with(["given x = 2", "given 0 = 1"]), "range x", "nowhere")

    def test_by_the_given_rows_alone(self):
        desk = desk_with(["given x <= 5", "so x <= 3 from 1", "so x >= 1 from 1", "given y = 2"])
        self.says(desk, "range x", "- 5")
        self.says(desk, "range y", "2 2")

    def test_given_behind_lines(self):
        desk = desk_with(["given x+abcdefgh = 5", "so x < 9 from 1", "given abcdefgh >= 1", "ask x"])
        self.says(desk, "range x", "- 4")
        self.says(desk, "range abcdefgh", "1 -")


class AnswerTest(DeskCase):
    def test_nothing_asked(self):
        self.says(desk_with(RIGHT), "answer", "nothing asked")
        self.says(desk_with(["given x = 1"]), "answer", "nothing asked")
        self.says(desk_with(["given 1 = 1"]), "answer", "nothing asked")

    def test_open(self):
        self.says(desk_with(RIGHT + ["ask x"]), "answer", "open")
        self.says(desk_with(["given x < 1", "given x > 1", "ask x"]), "answer", "open")

    def test_a_number_and_its_rows(self):
        self.says(desk_with(["given x = 3", "ask x"]), "answer", "3 1")
        self.says(desk_with(["given y = 1", "given 2*x = -3", "ask x"]), "answer", "-3/2 2")
        rows = ["given x+y = 10", "given x-y = 2", "so 2*y = 8 from 2 1", "so x = 6 from 3 1", "ask x"]
        self.says(desk_with(rows), "answer", "6 1 2 3 4")
        many = ["given x <= 1"] * 7 + ["given x >= 1"] + ["so x <= 1 from 1"] * 2 + ["so x = 1 from 10 8", "ask x"]
        self.says(desk_with(many), "answer", "1 1 8 10 11")

    def test_unreached(self):
        self.says(desk_with(["given x+y = 10", "given x-y = 2", "ask x"]), "answer", "6 unreached")
        self.says(desk_with(["given x <= -1/2", "given x >= -1/2", "ask x"]), "answer", "-1/2 unreached")
        rows = ["given x+y = 10", "given x-y = 2", "so x = 6 from 1", "ask x"]
        self.says(desk_with(rows), "answer", "6 unreached")


def own_end(end, ahead, behind):
    if end is None:
        return "-"
    word = str(Fraction(*end[0]))
    return word if end[1] else ahead + word + behind


class SameByTextTest(DeskCase):
    def test_drawn(self):
        drawn = random.Random(81)
        words = {}
        for turn in range(300):
            rows = draw_rows(drawn)
            work = read("\n".join(rows))
            desk = desk_of(rows)
            given = len([row for row in rows if row.startswith("given")])
            self.says(desk, "read", f"rows {given} {len(work[1]) - given}")
            for told in self.check_judge(desk, work), self.check_answer(desk, work):
                words[told] = words.get(told, 0) + 1
            self.check_lines(desk, work)
            self.check_ranges(desk, work)
        for word in ("right", "wrong", "nothing asked", "open", "is", "unreached"):
            self.assertGreater(words.get(word, 0), 3, words)

    def check_judge(self, desk, work):
        wrong = first_wrong(work)
        if wrong is None:
            self.says(desk, "judge", "right")
            return "right"
        words = desk.say("judge").split(" ")
        self.assertEqual(words[:2], ["wrong", str(wrong + 1)])
        point = [Fraction(word).as_integer_ratio() for word in words[2:]]
        self.assertEqual(len(point), len(work[0]))
        self.assertFalse(keeps(work[1][wrong][1], point))
        self.assertTrue(all(keeps(work[1][named][1], point) for named in work[1][wrong][2]))
        self.assertEqual(tuple(point), dict(judged(work))[wrong][1])
        return "wrong"

    def check_answer(self, desk, work):
        told = answer(work)
        if told is None or told[0] == "open":
            word = "nothing asked" if told is None else "open"
            self.says(desk, "answer", word)
            return word
        number = str(Fraction(*told[1]))
        if told[2] is None:
            self.says(desk, "answer", number + " unreached")
            return "unreached"
        self.says(desk, "answer", " ".join([number] + [str(place + 1) for place in told[2]]))
        return "is"

    def check_lines(self, desk, work):
        for place, verdict in judged(work):
            word, line, froms = work[1][place]
            wrong_row = f"need {place + 1}"
            if verdict[0] == "follows":
                wrong_row = f"near {place + 1}"
                places = needed(line, [work[1][named][1] for named in froms])
                text = " ".join(str(froms[one] + 1) for one in places) or "none"
                self.says(desk, f"need {place + 1}", text)
            else:
                near = nearest_right(work, place)
                text = "none" if near is None else shown_line(work[0], near)
                self.says(desk, f"near {place + 1}", text)
            with self.assertRaises(NotSo):
                desk.say(wrong_row)

    def check_ranges(self, desk, work):
        others = [row[1] for row in work[1] if row[0] == "given"]
        for place, name in enumerate(work[0]):
            ends = range_of(place, len(work[0]), others)
            text = "nowhere"
            if ends is not None:
                text = own_end(ends[0], "", "<") + " " + own_end(ends[1], "<", "")
            self.says(desk, "range " + name, text)


if __name__ == "__main__":
    unittest.main()
