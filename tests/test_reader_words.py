import itertools
import re
import unittest
from fractions import Fraction

from stepjudge.errors import NoForm
from stepjudge.reader import is_name, read

NAME = "(?!(?:given|so|from|ask)(?![a-z]))[a-z]{1,8}(?![a-z])"
WHOLE = "(?:0|[1-9][0-9]{0,5})(?![0-9])"
NUMBER = f"{WHOLE}(?:/(?!0){WHOLE})?"
TERM = f"(?:{NAME}|{NUMBER}\\*{NAME}|{NUMBER})"
SUM = re.compile(f"-?{TERM}(?:[+-]{TERM})*")


def told(number):
    return (number.numerator, number.denominator)


def line_of(word):
    return read(f"given {word} = 0")[1][0][1]


def bound_of(word):
    return read(f"given 0 = {word}")[1][0][1][2]


def worth_of(word):
    """What each name's terms come to, and under "" those without one, by a way of its own."""
    worths = {"": Fraction(0)}
    for sign, term in re.findall("([+-]?)([^+-]+)", word):
        number, name = re.fullmatch("([0-9/]*)[*]?([a-z]*)", term).groups()
        worths.setdefault(name, Fraction(0))
        worths[name] += Fraction(number or 1) * (-1 if sign == "-" else 1)
    return worths


class NameTest(unittest.TestCase):
    def test_names(self):
        for word in ["a", "z", "x", "price", "abcdefgh", "zzzzzzzz", "row", "the"]:
            self.assertIs(is_name(word), True, word)

    def test_lengths(self):
        self.assertIs(is_name(""), False)
        self.assertIs(is_name("abcdefghi"), False)
        self.assertIs(is_name("a" * 100000), False)

    def test_other_signs(self):
        for code in [10] + list(range(32, 127)):
            sign = chr(code)
            small = "a" <= sign <= "z"
            for word in [sign, "a" + sign, sign + "a", "a" + sign + "b"]:
                self.assertIs(is_name(word), small, repr(word))

    def test_the_four_words(self):
        for word in ["given", "so", "from", "ask"]:
            self.assertIs(is_name(word), False, word)
            self.assertIs(is_name(word + "s"), True, word)
            self.assertIs(is_name("a" + word), True, word)
            self.assertIs(is_name(word[:-1]), True, word)
            self.assertIs(is_name(word[1:]), True, word)
            self.assertIs(is_name(word.upper()), False, word)

    def test_words_as_terms(self):
        for word in ["given", "so", "from", "ask", "abcdefghi", "X", "x1", "x_y"]:
            for text in [word, "2*" + word, "x+" + word]:
                with self.subTest(text=text), self.assertRaises(NoForm):
                    line_of(text)
        for word in ["givens", "s", "rom", "asks", "abcdefgh"]:
            self.assertEqual(read(f"given 2*{word} = 0")[0], [word])


class NumberTest(unittest.TestCase):
    def test_right(self):
        for word in ["0", "1", "9", "10", "100000", "999999", "6/4", "0/5", "1/1", "1/999999", "999999/999998"]:
            with self.subTest(word=word):
                self.assertEqual(bound_of(word), told(Fraction(word)))
                self.assertEqual(bound_of("-" + word), told(-Fraction(word)))
                self.assertEqual(line_of(word + "*x")[1], (told(Fraction(word)),))

    def test_wrong(self):
        for word in ["00", "01", "007", "000000", "1000000", "0000000", "1/0", "0/0", "1/00", "1/02", "01/2",
                     "1/1000000", "1000000/1", "/", "1/", "/2", "1//2", "1/2/3", "1.5", "1_0", "1,0", "1e3",
                     "0x1", "(1)", "9" * 80, "1/-2", "1/x", "x/2", "x/y"]:
            for text in [word, "-" + word, "1+" + word, word + "*x"]:
                with self.subTest(text=text), self.assertRaises(NoForm):
                    line_of(text)


class SumTest(unittest.TestCase):
    def test_right(self):
        self.assertEqual(line_of("x"), ("=", ((1, 1),), (0, 1)))
        self.assertEqual(line_of("-x"), ("=", ((-1, 1),), (0, 1)))
        self.assertEqual(line_of("2/4*x-1"), ("=", ((1, 2),), (1, 1)))
        self.assertEqual(line_of("-1+3*x-1/2*y+5/2"), ("=", ((3, 1), (-1, 2)), (-3, 2)))

    def test_80_and_81_signs(self):
        many = "x+" * 39 + "xx"
        self.assertEqual(len(many), 80)
        self.assertEqual(line_of(many)[1], ((39, 1), (1, 1)))
        self.assertEqual(line_of("-" + "x+" * 38 + "xyz")[1], ((36, 1), (1, 1)))
        for word in [many + "x", "x+" * 40 + "x", "-" + "x+" * 39 + "xx", "1" * 81, "x+" * 100000 + "x"]:
            for text in [f"given {word} = 0", f"given 0 = {word}"]:
                with self.assertRaises(NoForm):
                    read(text)

    def test_wrong(self):
        for word in ["", "+", "-", "+x", "+1", "++x", "--x", "-+x", "+-x", "x++y", "x--y", "x+-y", "x-+y", "x+",
                     "x-", "-x-", "*", "*x", "2*", "x*2", "x*y", "2*3", "2**x", "2*x*y", "2*3*x", "2*-x", "2*+x",
                     "2x", "x2", "2*x+*y", "(x)", "x=1", "x<y", "x,y", "x;", "2/x", "2*x/3", "1/2/x", "2*1/2*x"]:
            for text in [f"given {word} = 0", f"given 0 = {word}", f"given x = 1\nso {word} = 0 from 1"]:
                with self.subTest(text=text), self.assertRaises(NoForm):
                    read(text)

    def test_every_short_word(self):
        for many in range(6):
            for signs in itertools.product("01x*/+-", repeat=many):
                word = "".join(signs)
                if SUM.fullmatch(word):
                    self.check_worth(word)
                else:
                    with self.assertRaises(NoForm, msg=word):
                        line_of(word)

    def check_worth(self, word):
        worths = worth_of(word)
        bound = told(-worths.pop(""))
        names, rows, asked = read(f"given {word} = 0")
        self.assertEqual(names, list(worths), word)
        parts = tuple(told(worth) for worth in worths.values())
        self.assertEqual(rows, [("given", ("=", parts, bound), ())], word)


if __name__ == "__main__":
    unittest.main()
