"""The desk: told one row after another, it answers each by a text.

It keeps the rows of a work as they are told, and, apart from them, the work that was read last.
"""

from stepjudge.answer import answer
from stepjudge.errors import NoName, NoneYet, NoRow, NoShape, NotSo
from stepjudge.fractions import shown
from stepjudge.judge import given_lines, judged, named_lines, verdict_of
from stepjudge.nearest import nearest_right, range_of
from stepjudge.needed import needed
from stepjudge.reader import is_name, is_whole, read
from stepjudge.texts import shown_line

LONE_WORDS = ("clear", "read", "judge", "answer")
LONGEST_ROW_NUMBER = 3


def is_row_number(word):
    return len(word) <= LONGEST_ROW_NUMBER and is_whole(word) and word != "0"


def has_shape(row):
    if "\n" in row:
        return False
    pieces = row.partition(" ")
    if pieces[0] == "row":
        return pieces[1] == " "
    if pieces[0] in ("near", "need"):
        return is_row_number(pieces[2])
    if pieces[0] == "range":
        return is_name(pieces[2])
    return row in LONE_WORDS


def row_numbers(places):
    return [str(place + 1) for place in places]


def counted(work):
    given = len(given_lines(work))
    lines = len(work[1]) - given
    return f"rows {given} {lines}"


def told_judge(work):
    for place, verdict in judged(work):
        if verdict[0] == "breaks":
            return " ".join(["wrong"] + row_numbers([place]) + [shown(number) for number in verdict[1]])
    return "right"


def line_place(work, word):
    rows = work[1]
    place = int(word) - 1
    # The ask is no row of the work, so its number lies behind the last.
    if place >= len(rows) or rows[place][0] == "given":
        raise NoRow("there is no line of this number")
    return place


def told_near(work, word):
    place = line_place(work, word)
    if verdict_of(work, place)[0] == "follows":
        raise NotSo("this line is not wrong")
    line = nearest_right(work, place)
    return "none" if line is None else shown_line(work[0], line)


def told_need(work, word):
    place = line_place(work, word)
    row = work[1][place]
    places = needed(row[1], named_lines(work, place))
    if places is None:
        raise NotSo("this line doesn't follow")
    return " ".join(row_numbers([row[2][one] for one in places])) if places else "none"


def told_least(end):
    if end is None:
        return "-"
    return shown(end[0]) if end[1] else shown(end[0]) + "<"


def told_greatest(end):
    if end is None:
        return "-"
    return shown(end[0]) if end[1] else "<" + shown(end[0])


def told_range(work, name):
    names = work[0]
    if name not in names:
        raise NoName("the work has no such name")
    ends = range_of(names.index(name), len(names), given_lines(work))
    return "nowhere" if ends is None else told_least(ends[0]) + " " + told_greatest(ends[1])


def told_answer(work):
    reached = answer(work)
    if reached is None:
        return "nothing asked"
    if reached[0] == "open":
        return "open"
    words = ["unreached"] if reached[2] is None else row_numbers(reached[2])
    return " ".join([shown(reached[1])] + words)


def told_of(work, word, rest):
    if word == "judge":
        return told_judge(work)
    if word == "near":
        return told_near(work, rest)
    if word == "need":
        return told_need(work, rest)
    if word == "range":
        return told_range(work, rest)
    return told_answer(work)


class Desk:
    def __init__(self):
        self.rows = []
        self.work = None

    def say(self, row):
        if not has_shape(row):
            raise NoShape("the desk knows no row of this form")
        pieces = row.partition(" ")
        if pieces[0] == "row":
            self.rows.append(pieces[2])
            return "ok"
        if row == "clear":
            self.rows = []
            return "ok"
        if row == "read":
            # A refused text raises here, so that the work read ahead stays.
            self.work = read("\n".join(self.rows))
            return counted(self.work)
        if self.work is None:
            raise NoneYet("no work is read yet")
        return told_of(self.work, pieces[0], pieces[2])
