"""The tightest bounds that follow: of parts, of an unknown, and of a wrong line."""

from stepjudge.elimination import never, opposite_end, stages_of, upper_end
from stepjudge.fractions import minus
from stepjudge.judge import named_lines

ZERO = (0, 1)
ONE = (1, 1)


def nearest(parts, others):
    stages = stages_of(parts, others)
    if never(stages) is not None:
        return ("any",)
    top = upper_end(stages)
    if top is None:
        return ("none",)
    return ("at", top[0], top[1])


def least_told(end):
    return None if end is None else (minus(ZERO, end[1]), end[0] == "<=")


def greatest_told(end):
    return None if end is None else (end[1], end[0] == "<=")


def range_of_sum(parts, others):
    stages = stages_of(parts, others)
    if never(stages) is not None:
        return None
    return (least_told(opposite_end(stages)), greatest_told(upper_end(stages)))


def range_of(place, many, others):
    return range_of_sum(tuple([ONE if place == one else ZERO for one in range(many)]), others)


def single_worth(ends):
    if ends is None or ends[0] is None or ends[0] != ends[1]:
        return None
    return ends[0][0]


def what_is(place, many, others):
    return single_worth(range_of(place, many, others))


def nearest_right(work, place):
    line = work[1][place][1]
    others = named_lines(work, place)
    if line[0] == "=":
        worth = single_worth(range_of_sum(line[1], others))
        return None if worth is None else ("=", line[1], worth)
    told = nearest(line[1], others)
    return (told[1], line[1], told[2]) if told[0] == "at" else None
