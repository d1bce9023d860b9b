import unittest

from stepjudge.desk import Desk
from stepjudge.errors import Full, NoForm, NoName, NoneYet, NoPlace, NoRow, NoShape, NotSo, TooLong

ROWS = ["given x+y = 10", "given x-y >= 2", "so x >= 6 from 1 2", "so y <= 3 from 1 3", "ask y"]
QUESTIONS = ["judge", "near 4", "need 3", "range x", "range y", "answer"]
NO_SHAPES = [
    "", " ", "  ", "row", "ROW given x = 1", "Row given x = 1", "rows", "rowgiven x = 1", " row given x = 1", "row\n",
    "row \n", "row given x = 1\n", "row given x = 1\nask x", "\nrow given x = 1", "row\ngiven x = 1",
    "clear ", " clear", "clear x", "clear 1", "clear\n", "\nclear", "Clear", "CLEAR", "clears", "clea",
    "read ", " read", "read x", "read\n", "READ", "reads", "read read",
    "judge ", " judge", "judge 3", "judge\n", "Judge", "judged",
    "answer ", " answer", "answer x", "answer\n", "Answer", "answers",
    "near", "near ", "near  3", "near 3 ", " near 3", "near 3\n", "near\n3", "near 0", "near 00", "near 03", "near 003",
    "near 1000", "near 0003", "near -3", "near +3", "near 3.0", "near 1_0", "near x", "near 3 4", "near 3x", "Near 3",
    "near3", "near /", "near :", "near \"3\"", "nears 3",
    "need", "need ", "need  3", "need 3 ", " need 3", "need 3\n", "need\n3", "need 0", "need 000", "need 03",
    "need 1000", "need 9999999", "need -3", "need +3", "need x", "need 3 4", "NEED 3", "need3",
    "range", "range ", "range  x", "range x ", " range x", "range x\n", "range\nx", "range X", "range x1", "range 1",
    "range x y", "range abcdefghi", "range given", "range so", "range from", "range ask", "range x-y", "range -",
    "RANGE x", "Range x", "rangex", "ranges x",
    "given x = 1", "so x = 1 from 1", "ask x", "help", "near near 3", "row" * 1000, "x" * 100000,
]


def desk_of(rows):
    desk = Desk()
    for row in rows:
        desk.say("row " + row)
    return desk


def desk_with(rows):
    desk = desk_of(rows)
    desk.say("read")
    return desk


def answers_of(desk):
    return [desk.say(question) for question in QUESTIONS]


class RefusalCase(unittest.TestCase):
    def refused(self, kind, desk, row):
        with self.assertRaises(kind) as caught:
            desk.say(row)
        # Just this class, none that stands under it.
        self.assertIs(type(caught.exception), kind, row)


class NoShapeTest(RefusalCase):
    def test_with_and_without_a_work(self):
        desk = desk_with(ROWS)
        wanted = answers_of(desk)
        for row in NO_SHAPES:
            self.refused(NoShape, Desk(), row)
            self.refused(NoShape, desk_of(ROWS), row)
            self.refused(NoShape, desk, row)
        self.assertEqual(answers_of(desk), wanted)
        self.assertEqual(desk.say("read"), "rows 2 2")

    def test_every_lone_sign_and_every_sign_behind(self):
        desk = desk_with(ROWS)
        for code in [10] + list(range(32, 127)):
            sign = chr(code)
            self.refused(NoShape, desk, sign)
            for word in ("clear", "read", "judge", "answer", "near 4", "need 3"):
                if not (sign.isdigit() and word[-1].isdigit()):
                    self.refused(NoShape, desk, word + sign)
                self.refused(NoShape, desk, sign + word)
            if not "a" <= sign <= "z":
                self.refused(NoShape, desk, "range x" + sign)
                self.refused(NoShape, desk, "range " + sign + "x")

    def test_shapes_that_are_just_right(self):
        desk = desk_with(ROWS)
        for row, kind in (("near 1", NoRow), ("near 999", NoRow), ("need 100", NoRow), ("need 10", NoRow),
                          ("range abcdefgh", NoName), ("range givens", NoName), ("range z", NoName)):
            self.refused(kind, desk, row)


class ReadTest(RefusalCase):
    def test_what_read_refuses(self):
        for rows, kind in (
            ([], NoForm),
            ([""], NoForm),
            (["", ""], NoForm),
            (["given x = 1", ""], NoForm),
            (["given x = 1/0"], NoForm),
            (["given x = 1"] * 41, TooLong),
            ([""] * 41, TooLong),
            (["nonsense"] * 40, NoForm),
            (["given x = 1", "ask x", "given x = 1"], NoPlace),
            (["given x = 1"] * 9, Full),
            (["given a+b = c+d"], Full),
            (["given x = 1"] + ["so x = 1 from 1"] * 13, Full),
            (["given x = 1", "so x = 1 from 2"], NoRow),
            (["given x = 1", "so x = 1 from 1 1"], NoRow),
            (["given x = 1", "ask y"], NoName),
        ):
            desk = desk_of(rows)
            # Asked twice, as a refusal leaves the rows as they were.
            self.refused(kind, desk, "read")
            self.refused(kind, desk, "read")
            self.refused(NoneYet, desk, "judge")

    def test_the_work_ahead_stays(self):
        for row in ["nonsense", "", "given x = 1", "ask x", "so x = 1 from 9"]:
            desk = desk_with(ROWS)
            wanted = answers_of(desk)
            desk.say("row " + row)
            with self.assertRaises(ValueError):
                desk.say("read")
            self.assertEqual(answers_of(desk), wanted)

    def test_rows_stay_behind_a_refused_read(self):
        desk = desk_of(["given x = 1", "so x = 1 from 2"])
        self.refused(NoRow, desk, "read")
        desk.say("row given a+b+c = 1")
        self.refused(NoRow, desk, "read")
        desk.say("clear")
        desk.say("row given x = 1")
        self.assertEqual(desk.say("read"), "rows 1 0")


class NoneYetTest(RefusalCase):
    def test_each_question(self):
        for rows in ([], ROWS, ["nonsense"]):
            desk = desk_of(rows)
            for row in ["judge", "answer", "near 1", "near 4", "near 999", "need 1", "need 3", "need 999", "range x",
                        "range zzz"]:
                self.refused(NoneYet, desk, row)

    def test_behind_clear_and_a_refused_read(self):
        desk = desk_of(["nonsense"])
        self.refused(NoForm, desk, "read")
        self.refused(NoneYet, desk, "judge")
        desk.say("clear")
        self.refused(NoneYet, desk, "answer")

    def test_behind_no_shape(self):
        for row in ["near 0", "need 01", "range given", "judge ", "answer 1"]:
            self.refused(NoShape, Desk(), row)


class NoNameTest(RefusalCase):
    def test_names_the_work_hasnt(self):
        desk = desk_with(ROWS)
        for name in ["z", "xy", "xx", "a", "abcdefgh"]:
            self.refused(NoName, desk, "range " + name)
        self.refused(NoName, desk_with(["given 1 = 1"]), "range x")

    def test_names_of_rows_not_read(self):
        desk = desk_with(["given x = 1"])
        desk.say("row given y = 1")
        self.refused(NoName, desk, "range y")
        desk.say("clear")
        self.refused(NoName, desk, "range y")
        self.assertEqual(desk.say("range x"), "1 1")

    def test_a_later_work_has_its_own_names(self):
        desk = desk_with(["given x = 1"])
        desk.say("clear")
        desk.say("row given y = 2")
        desk.say("read")
        self.refused(NoName, desk, "range x")
        self.assertEqual(desk.say("range y"), "2 2")


class NoRowTest(RefusalCase):
    def test_given_rows(self):
        desk = desk_with(ROWS)
        for word in ("near", "need"):
            self.refused(NoRow, desk, f"{word} 1")
            self.refused(NoRow, desk, f"{word} 2")
        late = desk_with(["given x = 1", "so x = 1 from 1", "given x = 2"])
        for word in ("near", "need"):
            self.refused(NoRow, late, f"{word} 3")

    def test_the_ask(self):
        desk = desk_with(ROWS)
        self.refused(NoRow, desk, "near 5")
        self.refused(NoRow, desk, "need 5")

    def test_beyond_the_last(self):
        for rows in (ROWS, ROWS[:-1]):
            desk = desk_with(rows)
            for number in (len(rows) + 1, len(rows) + 2, 40, 41, 999):
                self.refused(NoRow, desk, f"near {number}")
                self.refused(NoRow, desk, f"need {number}")

    def test_rows_told_but_not_read(self):
        desk = desk_with(["given x = 1"])
        desk.say("row so x = 1 from 1")
        self.refused(NoRow, desk, "need 2")
        desk.say("read")
        self.assertEqual(desk.say("need 2"), "1")


class NotSoTest(RefusalCase):
    def test_near_of_a_line_that_follows(self):
        desk = desk_with(ROWS)
        self.refused(NotSo, desk, "near 3")
        self.assertEqual(desk.say("need 3"), "1 2")
        clash = desk_with(["given x < 1", "given x > 1", "so x = 9 from 1 2", "so 0 = 1 from 1 2"])
        self.refused(NotSo, clash, "near 3")
        self.refused(NotSo, clash, "near 4")

    def test_need_of_a_line_that_doesnt(self):
        desk = desk_with(ROWS)
        self.refused(NotSo, desk, "need 4")
        self.assertEqual(desk.say("near 4"), "y <= 4")
        # Wrong, and without a nearest right one.
        self.refused(NotSo, desk_with(["given x <= 1", "so x >= 1 from 1"]), "need 2")

    def test_of_a_line_from_a_wrong_line(self):
        desk = desk_with(["given x = 1", "so x = 2 from 1", "so x > 1 from 2"])
        self.refused(NotSo, desk, "near 3")
        self.assertEqual(desk.say("need 3"), "2")


class NothingChangesTest(RefusalCase):
    def test_what_is_refused_changes_nothing(self):
        desk = desk_with(ROWS)
        wanted = answers_of(desk)
        for row in NO_SHAPES + ["near 1", "need 5", "near 3", "need 4", "range z", "near 99"]:
            with self.assertRaises(ValueError):
                desk.say(row)
        self.assertEqual(answers_of(desk), wanted)
        self.assertEqual(desk.say("read"), "rows 2 2")
        self.assertEqual(answers_of(desk), wanted)


if __name__ == "__main__":
    unittest.main()
