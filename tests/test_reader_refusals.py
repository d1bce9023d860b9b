import unittest

from stepjudge.errors import Full, NoForm, NoName, NoPlace, NoRow, StepError, TooLong
from stepjudge.reader import read

GIVEN = "given x = 1"
SO = "so x = 1 from 1"


class RefusalCase(unittest.TestCase):
    def refused(self, kind, *rows):
        text = "\n".join(rows)
        with self.subTest(text=text), self.assertRaises(StepError) as caught:
            read(text)
        self.assertIs(type(caught.exception), kind, text)

    def taken(self, *rows):
        return read("\n".join(rows))


class TooLongTest(RefusalCase):
    def test_40_and_41(self):
        self.refused(Full, *[GIVEN] * 40)
        self.refused(TooLong, *[GIVEN] * 41)
        self.refused(NoForm, *[""] * 40)
        self.refused(TooLong, *[""] * 41)

    def test_last_row_without_signs_counts(self):
        self.refused(Full, *[GIVEN] * 39, "")
        self.refused(TooLong, *[GIVEN] * 40, "")

    def test_ahead_of_all(self):
        self.refused(TooLong, "nonsense", *[GIVEN] * 40)
        self.refused(TooLong, "ask x", *["so x = 1 from 0"] * 40)


class NoFormTest(RefusalCase):
    def test_without_signs(self):
        self.refused(NoForm, "")
        self.refused(NoForm, "", GIVEN)
        self.refused(NoForm, GIVEN, "", GIVEN)
        self.refused(NoForm, GIVEN, "")
        self.refused(NoForm, GIVEN, "ask x", "")

    def test_blanks(self):
        for row in [" ", "  ", " given x = 1", "given x = 1 ", "given  x = 1", "given x  = 1", "given x =  1"]:
            self.refused(NoForm, row)
        for row in [" so x = 1 from 1", "so x = 1 from 1 ", "so  x = 1 from 1", "so x = 1  from 1",
                    "so x = 1 from  1", "so x = 1 from 1  2", "so x = 1 from ", " ask x", "ask x ", "ask  x", "ask "]:
            self.refused(NoForm, GIVEN, GIVEN, row)

    def test_counts_of_words(self):
        for row in ["given", "given x", "given x =", "given x = 1 2", "given x = 1 = 2", "given x = 1 from 1",
                    "given x=1", "given x + 1 = 2"]:
            self.refused(NoForm, row)
        for row in ["so", "so x", "so x =", "so x = 1", "so x = 1 from", "so x = 1 1", "so x = 1 2 3",
                    "so x = 1 from 1 from 2", "so from 1", "ask", "ask x x", "ask x 1"]:
            self.refused(NoForm, GIVEN, GIVEN, row)

    def test_first_words(self):
        for row in ["x = 1", "let x = 1", "Given x = 1", "GIVEN x = 1", "givens x = 1", "from 1", "# given x = 1"]:
            self.refused(NoForm, row)
        for row in ["So x = 1 from 1", "sos x = 1 from 1", "Ask x", "asks x"]:
            self.refused(NoForm, GIVEN, row)

    def test_signs(self):
        for sign in ["==", "=<", "=>", "<>", "!=", "<<", ">>", "<==", "x", "~", "is", "", "=1"]:
            self.refused(NoForm, f"given x {sign} 1")
            self.refused(NoForm, GIVEN, f"so x {sign} 1 from 1")

    def test_from_word(self):
        for word in ["form", "From", "by", "", "1"]:
            self.refused(NoForm, GIVEN, f"so x = 1 {word} 1")

    def test_from_numbers(self):
        for word in ["", "01", "00", "1000000", "0000001", "1/1", "-1", "+1", "1.", "x", "one", "1,2", "1_0",
                     "9" * 5000]:
            self.refused(NoForm, GIVEN, f"so x = 1 from {word}")
            self.refused(NoForm, GIVEN, f"so x = 1 from 1 {word}")

    def test_from_six_and_seven(self):
        rows = [GIVEN] * 8
        self.taken(*rows, "so x = 1 from 1 2 3 4 5 6")
        self.refused(NoForm, *rows, "so x = 1 from 1 2 3 4 5 6 7")

    def test_ask_words(self):
        for word in ["given", "so", "from", "ask", "X", "x1", "1", "abcdefghi", "x+y", "-x", "2*x"]:
            self.refused(NoForm, GIVEN, f"ask {word}")

    def test_divided_by_0(self):
        self.refused(NoForm, "given 1/0 = x")
        self.refused(NoForm, "given x = 0/0")
        self.refused(NoForm, GIVEN, "so 1/0*x = 1 from 1")

    def test_long_words(self):
        for word in ["9" * 5000, "x" * 5000, "1/" + "9" * 5000]:
            self.refused(NoForm, f"given {word} = 1")
            self.refused(NoForm, f"given x = {word}")
            self.refused(NoForm, word)


class NoPlaceTest(RefusalCase):
    def test_behind_ask(self):
        for row in [GIVEN, SO, "ask x"]:
            self.refused(NoPlace, GIVEN, "ask x", row)

    def test_ahead_of_full_no_row_and_no_name(self):
        self.refused(NoPlace, *[GIVEN] * 8, "ask x", GIVEN)
        self.refused(NoPlace, GIVEN, *[SO] * 12, "ask x", SO)
        self.refused(NoPlace, GIVEN, "ask x", "given a+b+c = d")
        self.refused(NoPlace, GIVEN, "ask x", "so x = 1 from 0")
        self.refused(NoPlace, GIVEN, "ask x", "so x = 1 from 9 9")
        self.refused(NoPlace, GIVEN, "ask x", "ask y")

    def test_behind_no_form(self):
        self.refused(NoForm, GIVEN, "ask x", "given x")
        self.refused(NoForm, GIVEN, "ask x", "")


class FullTest(RefusalCase):
    def test_given_rows(self):
        self.assertEqual(len(self.taken(*[GIVEN] * 8)[1]), 8)
        self.refused(Full, *[GIVEN] * 9)
        self.refused(Full, *[GIVEN] * 7, SO, GIVEN, SO, GIVEN)

    def test_lines(self):
        self.assertEqual(len(self.taken(GIVEN, *[SO] * 12)[1]), 13)
        self.refused(Full, GIVEN, *[SO] * 13)
        self.refused(Full, GIVEN, *[SO] * 6, GIVEN, *[SO] * 7)

    def test_all_full(self):
        work = self.taken(*[GIVEN] * 8, *[SO] * 12, "ask x")
        self.assertEqual((len(work[1]), work[2]), (20, 0))

    def test_names(self):
        self.taken("given a+b = c")
        self.refused(Full, "given a+b = c+d")
        self.refused(Full, "given a+b = c", "given d = 1")
        self.refused(Full, "given a+b = c", "so a = d from 1")
        self.refused(Full, "given a+b = c", "given d-d = 0")
        self.refused(Full, "given a+b = c", "given 0*d = 0")
        self.refused(Full, "given a = 1", "given b = 1", "given c = 1", "given d = 1")
        self.taken("given a+b = c", "given c+b = a", "so a+b = c from 1")

    def test_ahead_of_no_row(self):
        self.refused(Full, GIVEN, *[SO] * 12, "so x = 1 from 0")
        self.refused(Full, "given a+b = c", "so d = 1 from 7")
        self.refused(Full, "given a+b = c", "so d = 1 from 1 1")

    def test_behind_no_form(self):
        self.refused(NoForm, *[GIVEN] * 8, "given x = 01")
        self.refused(NoForm, "given a+b+c+d = 1/0")
        self.refused(NoForm, GIVEN, "so a+b+c+d = 1 from")


class NoRowTest(RefusalCase):
    def test_no_row_above(self):
        self.refused(NoRow, GIVEN, "so x = 1 from 0")
        self.refused(NoRow, GIVEN, "so x = 1 from 2")
        self.refused(NoRow, GIVEN, "so x = 1 from 3", GIVEN)
        self.refused(NoRow, GIVEN, "so x = 1 from 999999")
        self.refused(NoRow, GIVEN, "so x = 1 from 1 0")
        self.refused(NoRow, GIVEN, "so x = 1 from 1 2")
        self.refused(NoRow, SO)

    def test_told_twice(self):
        self.refused(NoRow, GIVEN, "so x = 1 from 1 1")
        self.refused(NoRow, GIVEN, GIVEN, "so x = 1 from 1 2 1")
        self.refused(NoRow, GIVEN, GIVEN, "so x = 1 from 2 1 1")

    def test_behind_no_form(self):
        self.refused(NoForm, GIVEN, "so x = 1 from 0 01")
        self.refused(NoForm, GIVEN, "so x == 1 from 0")
        self.refused(NoForm, GIVEN, "so x = 1 from 1 1 1 1 1 1 1")


class NoNameTest(RefusalCase):
    def test_nowhere_above(self):
        self.refused(NoName, GIVEN, "ask y")
        self.refused(NoName, "ask x")
        self.refused(NoName, "given 1 = 1", "ask x")
        self.refused(NoName, "ask x", GIVEN)

    def test_fourth_name_of_an_ask_is_not_counted(self):
        self.refused(NoName, "given a+b = c", "ask d")
        self.refused(NoName, *[GIVEN] * 8, *[SO] * 12, "ask y")


class FirstRowTest(RefusalCase):
    def test_first_faulty_row(self):
        self.refused(NoName, GIVEN, "ask y", "nonsense")
        self.refused(NoRow, GIVEN, "so x = 1 from 2", "nonsense")
        self.refused(Full, "given a+b+c+d = 1", "nonsense")
        self.refused(NoPlace, GIVEN, "ask x", GIVEN, "nonsense")
        self.refused(NoForm, "nonsense", "so x = 1 from 9", "ask y")
        self.refused(NoForm, GIVEN, "given x = 1/0", "ask x", GIVEN)
        self.refused(NoRow, GIVEN, "so x = 1 from 0", "given a+b+c = d")
        self.refused(Full, *[GIVEN] * 9, "", "")

    def test_a_refusal_leaves_nothing_behind(self):
        self.refused(Full, "given a+b = c", "given d = 1")
        self.assertEqual(self.taken("given d+e = f")[0], ["d", "e", "f"])


if __name__ == "__main__":
    unittest.main()
