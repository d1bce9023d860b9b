"""Reached: what the asked unknown is, and by which rows the work comes to it."""

from stepjudge.judge import given_lines, grounded
from stepjudge.nearest import range_of, single_worth

ZERO = (0, 1)


def tells(line, asked):
    return line[0] == "=" and all([(part != ZERO) == (place == asked) for place, part in enumerate(line[1])])


def come_to(rows, place):
    found = {place: True}
    # Rows name rows above alone, so one walk upwards meets each row behind all that name it.
    for above in range(place, -1, -1):
        if above in found:
            for named in rows[above][2]:
                found[named] = True
    return sorted(found)


def fewest_rows(work):
    rows = work[1]
    ways = [come_to(rows, place) for place in grounded(work) if tells(rows[place][1], work[2])]
    # Of ways of like length min takes the first, which is that of the first place.
    return min(ways, key=len, default=None)


def answer(work):
    asked = work[2]
    if asked is None:
        return None
    ends = range_of(asked, len(work[0]), given_lines(work))
    number = single_worth(ends)
    if number is None:
        return ("open", ends)
    # The given rows hold somewhere, so a grounded row that tells a number tells this one.
    return ("is", number, fewest_rows(work))
