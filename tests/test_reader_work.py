import unittest

from own_sums import lists_in
from stepjudge.reader import read

WHOLE_TEXT = "\n".join([
    "given x+y = 10",
    "given x-y >= 2",
    "so 2*x >= 12 from 2 1",
    "given z < 1/2*x",
    "so x > 5 from 3",
    "ask z",
])
WHOLE_WORK = (
    ["x", "y", "z"],
    [
        ("given", ("=", ((1, 1), (1, 1), (0, 1)), (10, 1)), ()),
        ("given", ("<=", ((-1, 1), (1, 1), (0, 1)), (-2, 1)), ()),
        ("so", ("<=", ((-2, 1), (0, 1), (0, 1)), (-12, 1)), (1, 0)),
        ("given", ("<", ((-1, 2), (0, 1), (1, 1)), (0, 1)), ()),
        ("so", ("<", ((-1, 1), (0, 1), (0, 1)), (-5, 1)), (2,)),
    ],
    2,
)


def line_of(row):
    return read(row)[1][0][1]


class WorkTest(unittest.TestCase):
    def test_whole(self):
        self.assertEqual(read(WHOLE_TEXT), WHOLE_WORK)

    def test_least(self):
        self.assertEqual(read("given 0 = 0"), ([], [("given", ("=", (), (0, 1)), ())], None))

    def test_kinds(self):
        names, rows, asked = read(WHOLE_TEXT)
        self.assertIs(type(read(WHOLE_TEXT)), tuple)
        self.assertIs(type(names), list)
        self.assertIs(type(rows), list)
        self.assertIs(type(asked), int)
        for row in rows:
            self.assertIs(type(row), tuple)
            self.assertIs(type(row[1]), tuple)
            self.assertIs(type(row[1][1]), tuple)
            self.assertIs(type(row[1][2]), tuple)
            self.assertIs(type(row[2]), tuple)
            for part in row[1][1]:
                self.assertIs(type(part), tuple)

    def test_told_anew_and_the_askers_own(self):
        first = read(WHOLE_TEXT)
        first[0].append("w")
        first[1].pop()
        second = read(WHOLE_TEXT)
        self.assertEqual(second, WHOLE_WORK)
        third = read(WHOLE_TEXT)
        found = lists_in(first) + lists_in(second) + lists_in(third)
        self.assertEqual(len(found), 6)
        self.assertEqual(len({id(one) for one in found}), 6)

    def test_lists_of_no_names_are_not_one(self):
        first = read("given 0 = 0")
        first[0].append("x")
        self.assertEqual(read("given 0 = 0")[0], [])


class SignTest(unittest.TestCase):
    def test_each(self):
        self.assertEqual(line_of("given 2*x-y = 3"), ("=", ((2, 1), (-1, 1)), (3, 1)))
        self.assertEqual(line_of("given 2*x-y <= 3"), ("<=", ((2, 1), (-1, 1)), (3, 1)))
        self.assertEqual(line_of("given 2*x-y < 3"), ("<", ((2, 1), (-1, 1)), (3, 1)))
        self.assertEqual(line_of("given 2*x-y >= 3"), ("<=", ((-2, 1), (1, 1)), (-3, 1)))
        self.assertEqual(line_of("given 2*x-y > 3"), ("<", ((-2, 1), (1, 1)), (-3, 1)))

    def test_each_in_a_line(self):
        for sign, kind, turn in [("=", "=", 1), ("<=", "<=", 1), ("<", "<", 1), (">=", "<=", -1), (">", "<", -1)]:
            row = read(f"given x = 1\nso 3*x {sign} 4 from 1")[1][1]
            self.assertEqual(row, ("so", (kind, ((3 * turn, 1),), (4 * turn, 1)), (0,)))

    def test_numbers_alone(self):
        self.assertEqual(line_of("given 1/2 > 1/3"), ("<", (), (1, 6)))
        self.assertEqual(line_of("given 1/2 < 1/3"), ("<", (), (-1, 6)))


class SidesTest(unittest.TestCase):
    def test_terms_at_both_sides(self):
        self.assertEqual(line_of("given 2*x+3-y <= 1-x+1/2*y-5"), ("<=", ((3, 1), (-3, 2)), (-7, 1)))
        self.assertEqual(line_of("given 2*x+3-y >= 1-x+1/2*y-5"), ("<=", ((-3, 1), (3, 2)), (7, 1)))

    def test_name_only_at_the_right(self):
        self.assertEqual(line_of("given 3 = 2*x"), ("=", ((-2, 1),), (-3, 1)))
        self.assertEqual(line_of("given 3 > 2*x"), ("<", ((2, 1),), (3, 1)))

    def test_equal_lines_are_not_made_alike(self):
        self.assertEqual(line_of("given 4*x = 2"), ("=", ((4, 1),), (2, 1)))
        self.assertEqual(line_of("given -4*x = -2"), ("=", ((-4, 1),), (-2, 1)))


class NamesTest(unittest.TestCase):
    def test_terms_that_come_to_0(self):
        self.assertEqual(read("given x-x = 0"), (["x"], [("given", ("=", ((0, 1),), (0, 1)), ())], None))
        self.assertEqual(read("given x+y-1/2*x < 1/2*x")[1][0][1], ("<", ((0, 1), (1, 1)), (0, 1)))
        self.assertEqual(read("given 0*x = 0")[0], ["x"])

    def test_terms_put_together(self):
        self.assertEqual(line_of("given x+1/2*x+1/3*x = 1/6*x+x"), ("=", ((2, 3),), (0, 1)))

    def test_order(self):
        self.assertEqual(read("given b+a = c")[0], ["b", "a", "c"])
        self.assertEqual(read("given c > b-a")[0], ["c", "b", "a"])
        self.assertEqual(read("given 1 = c\ngiven c+b = a")[0], ["c", "b", "a"])
        self.assertEqual(read("given b = b\nso c = a from 1\ngiven a = c")[0], ["b", "c", "a"])

    def test_how_many(self):
        for many, row in enumerate(["given 1 = 1", "given x = 1", "given x = y", "given x = y+z"]):
            names, rows, asked = read(row)
            self.assertEqual(len(names), many)
            self.assertEqual(len(rows[0][1][1]), many)
            self.assertIsNone(asked)

    def test_later_names_have_parts_in_earlier_rows(self):
        rows = read("given 1 = 1\ngiven x = 1\ngiven y = 1")[1]
        self.assertEqual([row[1][1] for row in rows],
                         [((0, 1), (0, 1)), ((1, 1), (0, 1)), ((0, 1), (1, 1))])


class FromTest(unittest.TestCase):
    def test_one(self):
        self.assertEqual(read("given x = 1\nso x = 1 from 1")[1][1][2], (0,))

    def test_six_in_any_order(self):
        rows = "given x = 1\n" * 6
        for order in [(1, 2, 3, 4, 5, 6), (6, 5, 4, 3, 2, 1), (3, 1, 6, 2, 5, 4)]:
            words = " ".join(str(number) for number in order)
            row = read(rows + f"so x = 1 from {words}")[1][6]
            self.assertEqual(row[2], tuple(number - 1 for number in order))

    def test_lines_named_by_lines(self):
        rows = read("given x = 1\nso x = 1 from 1\nso x = 1 from 2 1\nso x = 1 from 3")[1]
        self.assertEqual([row[2] for row in rows], [(), (0,), (1, 0), (2,)])

    def test_given_behind_lines(self):
        rows = read("given x = 1\nso x = 1 from 1\ngiven x = 2\nso x = 2 from 3 2")[1]
        self.assertEqual([row[0] for row in rows], ["given", "so", "given", "so"])
        self.assertEqual(rows[3][2], (2, 1))

    def test_row_numbers_of_two_figures(self):
        text = "given x = 1\n" * 8 + "\n".join(f"so x = 1 from {number}" for number in range(8, 20))
        rows = read(text)[1]
        self.assertEqual(len(rows), 20)
        self.assertEqual([row[2] for row in rows[8:]], [(number - 1,) for number in range(8, 20)])


class AskTest(unittest.TestCase):
    def test_place(self):
        for place, name in enumerate(["c", "a", "b"]):
            work = read(f"given c+a = b\nask {name}")
            self.assertEqual(work[2], place)
            self.assertEqual(len(work[1]), 1)

    def test_behind_a_line(self):
        self.assertEqual(read("given x = 1\nso 2*x = 2 from 1\nask x")[2], 0)

    def test_name_whose_terms_come_to_0(self):
        self.assertEqual(read("given y+x-x = 1\nask x")[2], 1)

    def test_none(self):
        self.assertIsNone(read("given x = 1")[2])


if __name__ == "__main__":
    unittest.main()
