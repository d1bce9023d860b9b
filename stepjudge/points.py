"""Points: a number for each unknown, and whether a line holds there."""

from stepjudge.fractions import below, plus, times


def worth(parts, point):
    total = (0, 1)
    for part, number in zip(parts, point):
        total = plus(total, times(part, number))
    return total


def holds(line, point):
    total = worth(line[1], point)
    if below(total, line[2]):
        return line[0] != "="
    return total == line[2] and line[0] != "<"
