"""Unknowns taken out of lines one after another, exactly, till a sum of them stands alone.

A row is a tuple (kind, numbers) of whole numbers: a part for each unknown, a part for the sum, the bound, and a
weight for each of the others. It comes of the others, multiplied with their weights and put together, and of the
sum's own row (the sum, less what it is made of, is 0), multiplied with the sum's part; so where the unknowns' parts
are all 0, the weights show what is said of the sum.

The stages are lists of rows: those of which the first unknown is taken out, the second .., and last those in which
the sum stands alone. All points that keep a stage are just those that keep the one ahead, but for the unknown taken.
"""

from stepjudge.fractions import below, common_divisor, make, minus, over, plus, times

ZERO = (0, 1)
ONE = (1, 1)
TWO = (2, 1)


def lowered(numbers):
    divisor = 0
    for number in numbers:
        divisor = common_divisor(divisor, abs(number))
    return tuple([number // divisor for number in numbers])


def whole_row(kind, fractions):
    multiple = 1
    for n, d in fractions:
        multiple = multiple * d // common_divisor(multiple, d)
    return (kind, tuple([n * (multiple // d) for n, d in fractions]))


def first_rows(parts, others):
    rows = []
    for place, other in enumerate(others):
        weights = [ONE if place == one else ZERO for one in range(len(others))]
        rows.append(whole_row(other[0], list(other[1]) + [ZERO, other[2]] + weights))
    less = [minus(ZERO, part) for part in parts]
    rows.append(whole_row("=", less + [ONE, ZERO] + [ZERO] * len(others)))
    return rows


def mixed(one, much, other, more):
    return lowered([much * a + more * b for a, b in zip(one, other)])


def equal_row(rows, place):
    for row in rows:
        if row[0] == "=" and row[1][place] != 0:
            return row
    return None


def without(row, equal, place):
    part = equal[1][place]
    # The row itself is multiplied by no number below 0, which would turn it about.
    more = -row[1][place] if part > 0 else row[1][place]
    return (row[0], mixed(row[1], abs(part), equal[1], more))


def joined(upper, lower, place):
    kind = "<" if "<" in (upper[0], lower[0]) else "<="
    return (kind, mixed(upper[1], -lower[1][place], lower[1], upper[1][place]))


def drawn_on(one, other, weighed):
    return len([place for place in weighed if one[1][place] != 0 or other[1][place] != 0])


def paired(rows, place, weighed, most):
    # A dict, as one row may come of several pairs.
    kept = {}
    for row in rows:
        if row[1][place] == 0:
            kept[row] = True
    lowers = [row for row in rows if row[1][place] < 0]
    for upper in [row for row in rows if row[1][place] > 0]:
        for lower in lowers:
            if drawn_on(upper, lower, weighed) <= most:
                kept[joined(upper, lower, place)] = True
    return list(kept)


def stages_of(parts, others):
    rows = first_rows(parts, others)
    ahead = len(parts) + 2
    weighed = [ahead + place for place, other in enumerate(others) if other[0] != "="]
    # Of the others that aren't of kind "=", a row needs to draw on one more than unknowns were taken out by pairs:
    # one that draws on more is put together of rows that draw on fewer. Without this, rows would be far too many.
    most = 1
    stages = []
    for place in range(len(parts)):
        stages.append(rows)
        equal = equal_row(rows, place)
        if equal is None:
            most = most + 1
            rows = paired(rows, place, weighed, most)
        else:
            rows = [without(row, equal, place) for row in rows if row != equal]
    stages.append(rows)
    return stages


def left_over(row, point):
    left = (row[1][len(point)], 1)
    for place, number in enumerate(point):
        part = row[1][place]
        if part != 0:
            left = minus(left, times((part, 1), number))
    return left


def tightest(rows, place, point, way):
    # The point has 0 for what isn't known yet. Way 1 bounds the unknown from above, way -1 its opposite, so that both
    # ends are found alike.
    best = None
    for row in rows:
        part = way * row[1][place]
        if part > 0 or (part < 0 and row[0] == "="):
            kind = "<" if row[0] == "<" else "<="
            number = over(left_over(row, point), (part, 1))
            if best is None or below(number, best[1]) or (number == best[1] and kind == "<"):
                best = (kind, number, [make(weight, part) for weight in row[1][len(point) + 1:]])
    return best


def end_of(stages, way):
    place = len(stages) - 1
    return tightest(stages[-1], place, [ZERO] * (place + 1), way)


def upper_end(stages):
    # (kind, number, weights): how the sum is bounded, and the weights that show it; None where it isn't.
    return end_of(stages, 1)


def opposite_end(stages):
    # The same of the sum multiplied with -1: its number, turned about, is the sum's least.
    return end_of(stages, -1)


def is_never(kind, bound):
    if kind == "=":
        return bound != ZERO
    return below(bound, ZERO) or (kind == "<" and bound == ZERO)


def never_by_a_row(stages):
    place = len(stages) - 1
    for row in stages[-1]:
        bound = row[1][place + 1]
        if row[1][place] == 0 and is_never(row[0], (bound, 1)):
            way = -1 if row[0] == "=" and bound > 0 else 1
            return [(way * weight, 1) for weight in row[1][place + 2:]]
    return None


def never_by_ends(stages):
    top = upper_end(stages)
    bottom = opposite_end(stages)
    if top is None or bottom is None:
        return None
    kind = "<" if "<" in (top[0], bottom[0]) else "<="
    if is_never(kind, plus(top[1], bottom[1])):
        return [plus(a, b) for a, b in zip(top[2], bottom[2])]
    return None


def never(stages):
    # Weights by which the others come to parts of 0 and a bound that 0 doesn't keep, or None where they hold somewhere.
    weights = never_by_a_row(stages)
    return never_by_ends(stages) if weights is None else weights


def number_of(end):
    return None if end is None else end[1]


def turned_number_of(end):
    return None if end is None else minus(ZERO, end[1])


def between(least, greatest):
    if least is None and greatest is None:
        return ZERO
    if greatest is None:
        return plus(least, ONE)
    if least is None:
        return minus(greatest, ONE)
    return over(plus(least, greatest), TWO)


def point_of(stages, number):
    many = len(stages) - 1
    point = [ZERO] * many + [number]
    for place in range(many - 1, -1, -1):
        least = turned_number_of(tightest(stages[place], place, point, -1))
        greatest = number_of(tightest(stages[place], place, point, 1))
        point[place] = between(least, greatest)
    return tuple(point[:many])


def point_beyond(stages, bound):
    # A point of the others at which the sum is above the bound, or, where that is its greatest number, at it.
    least = turned_number_of(opposite_end(stages))
    if least is None or below(least, bound):
        least = bound
    return point_of(stages, between(least, number_of(upper_end(stages))))
