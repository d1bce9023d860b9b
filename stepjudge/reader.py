"""Worked answers read: a text is told as a work, or is refused.

A row is first read by itself, as a draft: (word, kind, terms, numbers) of a given row or a line, where
terms are pairs (name, number) that all stand left, name None of a term without one; ("ask", name) of an
ask. Only when all rows are read are the names known, and the drafts made into rows.
"""

from stepjudge.errors import Full, NoForm, NoName, NoPlace, NoRow, TooLong
from stepjudge.fractions import make, minus, plus

LETTERS = "abcdefghijklmnopqrstuvwxyz"
FIGURES = "0123456789"
NO_NAMES = ("given", "so", "from", "ask")
KINDS = {"=": "=", "<=": "<=", "<": "<", ">=": "<=", ">": "<"}
ZERO = (0, 1)
ONE = (1, 1)
LONGEST_NAME = 8
LONGEST_NUMBER = 6
LONGEST_SUM = 80
MOST_ROWS = 40
MOST_NAMES = 3
MOST_NAMED_ROWS = 6
MOST_OF = {"given": 8, "so": 12}


def is_name(word):
    if not 1 <= len(word) <= LONGEST_NAME or word in NO_NAMES:
        return False
    return all([sign in LETTERS for sign in word])


def is_whole(word):
    if not 1 <= len(word) <= LONGEST_NUMBER or (word.startswith("0") and word != "0"):
        return False
    return all([sign in FIGURES for sign in word])


def read_whole(word):
    # Asked ahead of int, which would take signs, blanks and low lines too.
    if not is_whole(word):
        raise NoForm("a number is 1 to 6 figures without noughts ahead")
    return int(word)


def read_number(word):
    pieces = word.split("/")
    if len(pieces) > 2:
        raise NoForm("a number is parted by / at most once")
    n = read_whole(pieces[0])
    d = read_whole(pieces[1]) if len(pieces) == 2 else 1
    if d == 0:
        raise NoForm("a number is not divided by 0")
    return make(n, d)


def read_term(word):
    if is_name(word):
        return (word, ONE)
    pieces = word.split("*")
    if len(pieces) == 1:
        return (None, read_number(word))
    if len(pieces) > 2 or not is_name(pieces[1]):
        raise NoForm("a term is a number, a name, or a number, * and a name")
    return (pieces[1], read_number(pieces[0]))


def turned(terms):
    return [(name, minus(ZERO, number)) for name, number in terms]


def read_signed_term(word):
    if word.startswith("-"):
        term = read_term(word[1:])
        return (term[0], minus(ZERO, term[1]))
    return read_term(word)


def read_sum(word):
    if len(word) > LONGEST_SUM:
        raise NoForm("a sum has at most 80 signs")
    pieces = word.replace("-", "+-").split("+")
    # Only a - ahead of all may leave nothing ahead of its split; elsewhere nothing is a missing term.
    if word.startswith("-"):
        pieces = pieces[1:]
    return [read_signed_term(piece) for piece in pieces]


def read_line(word, left, sign, right, numbers):
    if sign not in KINDS:
        raise NoForm("the sign is one of = <= < >= >")
    terms = read_sum(left) + turned(read_sum(right))
    if sign.startswith(">"):
        terms = turned(terms)
    return (word, KINDS[sign], terms, [read_whole(number) for number in numbers])


def read_row(row):
    words = row.split(" ")
    if words[0] == "given" and len(words) == 4:
        return read_line("given", words[1], words[2], words[3], [])
    if words[0] == "so" and 6 <= len(words) <= 5 + MOST_NAMED_ROWS and words[4] == "from":
        return read_line("so", words[1], words[2], words[3], words[5:])
    if words[0] == "ask" and len(words) == 2 and is_name(words[1]):
        return ("ask", words[1])
    raise NoForm("a row is given SUM SIGN SUM, so SUM SIGN SUM from N .., or ask NAME")


def names_with(names, terms):
    known = list(names)
    for name, number in terms:
        if name is not None and name not in known:
            known.append(name)
    return known


def check_room(draft, above, names):
    word = draft[0]
    if len([other for other in above if other[0] == word]) == MOST_OF[word]:
        raise Full("there are at most 8 given rows and 12 lines")
    if len(names_with(names, draft[2])) > MOST_NAMES:
        raise Full("there are at most 3 names")


def check_numbers(numbers, above):
    for number in numbers:
        if not 1 <= number <= len(above):
            raise NoRow(f"there is no row {number} above")
        if numbers.count(number) > 1:
            raise NoRow(f"row {number} is told twice")


def check(draft, above, names):
    if above and above[-1][0] == "ask":
        raise NoPlace("an ask is the last row")
    if draft[0] != "ask":
        check_room(draft, above, names)
        check_numbers(draft[3], above)
    elif draft[1] not in names:
        raise NoName("what is asked stands in no row above")


def part_of(name, terms):
    total = ZERO
    for other, number in terms:
        if other == name:
            total = plus(total, number)
    return total


def row_of(draft, names):
    terms = draft[2]
    parts = tuple([part_of(name, terms) for name in names])
    bound = minus(ZERO, part_of(None, terms))
    return (draft[0], (draft[1], parts, bound), tuple([number - 1 for number in draft[3]]))


def read(text):
    rows = text.split("\n")
    if len(rows) > MOST_ROWS:
        raise TooLong("a work has at most 40 rows")
    drafts = []
    names = []
    for row in rows:
        draft = read_row(row)
        check(draft, drafts, names)
        drafts.append(draft)
        if draft[0] != "ask":
            names = names_with(names, draft[2])
    last = drafts[-1]
    asked = names.index(last[1]) if last[0] == "ask" else None
    return (names, [row_of(draft, names) for draft in drafts if draft[0] != "ask"], asked)
