"""Following: a line from others, shown by weights or broken at a point."""

from stepjudge.elimination import never, point_beyond, stages_of, upper_end
from stepjudge.fractions import below, minus, plus, times

ZERO = (0, 1)


def halves(line):
    parts = tuple([minus(ZERO, part) for part in line[1]])
    return [("<=", line[1], line[2]), ("<=", parts, minus(ZERO, line[2]))]


def is_kept(line, kind, bound):
    # Whether all that keeps the same parts with this kind and bound keeps the line.
    if bound == line[2]:
        return line[0] == "<=" or kind == "<"
    return below(bound, line[2])


def half_follows(line, others):
    stages = stages_of(line[1], others)
    paper = never(stages)
    if paper is None:
        top = upper_end(stages)
        if top is None or not is_kept(line, top[0], top[1]):
            return ("breaks", point_beyond(stages, line[2]))
        paper = top[2]
    return ("follows", paper)


def follows(line, others):
    if line[0] != "=":
        return half_follows(line, others)
    papers = []
    for half in halves(line):
        verdict = half_follows(half, others)
        if verdict[0] == "breaks":
            return verdict
        papers.append(verdict[1])
    return ("follows", tuple(papers))


def is_allowed(others, paper):
    if not isinstance(paper, list) or len(paper) != len(others):
        return False
    return all([other[0] == "=" or not below(weight, ZERO) for other, weight in zip(others, paper)])


def put_together(many, others, paper):
    kind = "<="
    parts = [ZERO] * many
    bound = ZERO
    for other, weight in zip(others, paper):
        parts = [plus(part, times(weight, more)) for part, more in zip(parts, other[1])]
        bound = plus(bound, times(weight, other[2]))
        if other[0] == "<" and weight != ZERO:
            kind = "<"
    return (kind, tuple(parts), bound)


def is_half_right(line, others, paper):
    if not is_allowed(others, paper):
        return False
    shown = put_together(len(line[1]), others, paper)
    if shown[1] == line[1] and is_kept(line, shown[0], shown[2]):
        return True
    nothing = ("<", tuple([ZERO] * len(line[1])), ZERO)
    return shown[1] == nothing[1] and is_kept(nothing, shown[0], shown[2])


def is_right(line, others, paper):
    if line[0] != "=":
        return is_half_right(line, others, paper)
    if not isinstance(paper, tuple) or len(paper) != 2:
        return False
    return all([is_half_right(half, others, weights) for half, weights in zip(halves(line), paper)])
