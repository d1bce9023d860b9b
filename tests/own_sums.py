"""What the tests reckon by themselves, with Python's own fractions, and the lines that they draw."""

from fractions import Fraction

KINDS = ("=", "<=", "<")


def told(number):
    fraction = Fraction(number)
    return (fraction.numerator, fraction.denominator)


def line(kind, parts, bound):
    return (kind, tuple(told(part) for part in parts), told(bound))


def worth(parts, point):
    return sum((Fraction(*part) * Fraction(*number) for part, number in zip(parts, point, strict=True)), Fraction(0))


def keeps(given, point):
    total = worth(given[1], point)
    bound = Fraction(*given[2])
    return {"=": total == bound, "<=": total <= bound, "<": total < bound}[given[0]]


def turned(given):
    return ("<=", tuple(told(-Fraction(*part)) for part in given[1]), told(-Fraction(*given[2])))


def shows(given, others, paper):
    """Whether the paper is right, by the document's words."""
    if given[0] == "=":
        if not isinstance(paper, tuple) or len(paper) != 2:
            return False
        return shows(("<=", given[1], given[2]), others, paper[0]) and shows(turned(given), others, paper[1])
    if not isinstance(paper, list) or len(paper) != len(others):
        return False
    weights = [Fraction(*weight) for weight in paper]
    if any(weight < 0 and other[0] != "=" for weight, other in zip(weights, others)):
        return False
    parts = [sum((weight * Fraction(*other[1][place]) for weight, other in zip(weights, others)), Fraction(0))
             for place in range(len(given[1]))]
    bound = sum((weight * Fraction(*other[2]) for weight, other in zip(weights, others)), Fraction(0))
    strict = any(weight > 0 and other[0] == "<" for weight, other in zip(weights, others))
    if parts == [Fraction(*part) for part in given[1]]:
        mine = Fraction(*given[2])
        if bound < mine or (bound == mine and (given[0] == "<=" or strict)):
            return True
    return not any(parts) and (bound < 0 or (bound == 0 and strict))


def halved(others):
    """The lines as (parts, bound, strict), each of kind "=" as two."""
    rows = []
    for kind, parts, bound in others:
        row = ([Fraction(*part) for part in parts], Fraction(*bound), kind == "<")
        rows.append(row)
        if kind == "=":
            rows.append(([-part for part in row[0]], -row[1], False))
    return rows


def without(rows, place):
    """What the rows say of all but one place: every pair that bounds it from both sides, put together."""
    tightest = {}
    uppers = [row for row in rows if row[0][place] > 0]
    lowers = [row for row in rows if row[0][place] < 0]
    left = [row for row in rows if row[0][place] == 0]
    for parts, bound, strict in uppers:
        for more, other, stricter in lowers:
            much, many = -more[place], parts[place]
            left.append(([much * a + many * b for a, b in zip(parts, more)], much * bound + many * other,
                         strict or stricter))
    for parts, bound, strict in left:
        size = max([abs(part) for part in parts]) or 1
        key = tuple(part / size for part in parts)
        tightest[key] = min(tightest.get(key, (bound / size, not strict)), (bound / size, not strict))
    return [(list(key), bound, not weak) for key, (bound, weak) in tightest.items()]


def own_range(parts, others):
    """What a sum may be, as (least, greatest), each None or (number, whether it may be); None where nothing may.

    By plain elimination without weights, so for few others alone.
    """
    many = len(parts)
    numbers = [Fraction(*part) for part in parts]
    rows = [(row + [Fraction(0)], bound, strict) for row, bound, strict in halved(others)]
    rows.append((numbers + [Fraction(-1)], Fraction(0), False))
    rows.append(([-number for number in numbers] + [Fraction(1)], Fraction(0), False))
    for place in range(many):
        rows = without(rows, place)
    if any(row[many] == 0 and (bound < 0 or (bound == 0 and strict)) for row, bound, strict in rows):
        return None
    greatest = min([(bound / row[many], not strict) for row, bound, strict in rows if row[many] > 0], default=None)
    # Turned about, so that the stricter of two of like number comes first here, too.
    least = min([(bound / -row[many], not strict) for row, bound, strict in rows if row[many] < 0], default=None)
    least = None if least is None else (-least[0], least[1])
    if least is not None and greatest is not None:
        if least[0] > greatest[0] or (least[0] == greatest[0] and not (least[1] and greatest[1])):
            return None
    return (least, greatest)


def own_follows(given, others):
    """Whether the line follows, by the range of its sum."""
    ends = own_range(given[1], others)
    if ends is None:
        return True
    bound = Fraction(*given[2])
    if given[0] == "=":
        return ends == ((bound, True), (bound, True))
    if ends[1] is None:
        return False
    return ends[1][0] < bound or (ends[1][0] == bound and (given[0] == "<=" or not ends[1][1]))


def is_fraction(value):
    if type(value) is not tuple or [type(part) for part in value] != [int, int] or value[1] < 1:
        return False
    return told(Fraction(*value)) == value


def lists_in(value):
    """Every list in a value, however deep."""
    found = [value] if isinstance(value, list) else []
    if isinstance(value, (list, tuple)):
        for part in value:
            found.extend(lists_in(part))
    return found


def draw_number(drawn, great):
    if great:
        return Fraction(drawn.randint(1 - 10 ** 30, 10 ** 30 - 1), drawn.randint(1, 10 ** 30 - 1))
    return Fraction(drawn.randint(-3, 3), drawn.choice([1, 1, 1, 2, 3]))


def draw_line(drawn, many, kinds, great):
    return line(drawn.choice(kinds), [draw_number(drawn, great) for place in range(many)], draw_number(drawn, great))


def draw_others(drawn, many, count, great):
    """Lines that mostly hold at one point together, some of them just so."""
    kinds = drawn.choice([KINDS, KINDS, ("<=", "<"), ("<=", "<"), ("<=",), ("<",)])
    point = [told(draw_number(drawn, False)) for place in range(many)]
    astray = drawn.choice([0, 0, 0.1])
    others = []
    for place in range(count):
        other = draw_line(drawn, many, kinds, great)
        if drawn.random() >= astray:
            room = 0 if other[0] == "=" else abs(Fraction(*other[2])) + (1 if other[0] == "<" else 0)
            if drawn.random() < 0.3 and other[0] == "<=":
                room = 0
            other = (other[0], other[1], told(worth(other[1], point) + room))
        others.append(other)
    return others


def draw_sum(drawn, many, others):
    """A line put together of the others, now and then a little tighter than they let."""
    kind = drawn.choice(KINDS)
    weights = [drawn.choice([0, 0, 1, 2, Fraction(1, 3)]) for other in others]
    if kind == "=" and drawn.random() < 0.7:
        # Drawn otherwise, hardly any line of kind "=" would follow.
        weights = [weight if other[0] == "=" else 0 for weight, other in zip(weights, others)]
    weights = [-weight if other[0] == "=" and drawn.random() < 0.5 else weight
               for weight, other in zip(weights, others)]
    parts = [sum((weight * Fraction(*other[1][place]) for weight, other in zip(weights, others)), Fraction(0))
             for place in range(many)]
    bound = sum((weight * Fraction(*other[2]) for weight, other in zip(weights, others)), Fraction(0))
    room = drawn.choice([0, 0, 0, 1, Fraction(1, 10 ** 6), Fraction(-1, 10 ** 6), -1])
    return line(kind, parts, bound + room)


def draw_question(drawn, great=False, most=12):
    """A line and others, of as many parts."""
    many = drawn.randint(0, 3)
    others = draw_others(drawn, many, drawn.randint(0, most), great)
    if drawn.random() < 0.7:
        return (draw_sum(drawn, many, others), others)
    return (draw_line(drawn, many, KINDS, great), others)


def draw_rows(drawn):
    """The rows of a work as texts."""
    names = drawn.sample(["x", "y", "total"], drawn.randint(0, 3))

    def draw_sums():
        terms = [f"{drawn.choice(['', '-', '-2*', '2*', '1/3*', '-3/2*'])}{name}" for name in names]
        left = "+".join(terms[:drawn.randint(0, 3)]).replace("+-", "-") or "0"
        return f"{left} {drawn.choice(['=', '=', '=', '<=', '<', '>=', '>'])} {drawn.randint(-3, 6)}"

    rows = ["given " + draw_sums() for turn in range(drawn.randint(1, 5))]
    for turn in range(drawn.randint(0, 5)):
        numbers = drawn.sample(range(1, len(rows) + 1), drawn.randint(1, min(6, len(rows))))
        rows.append(f"so {draw_sums()} from {' '.join(str(number) for number in numbers)}")
    asked = [name for name in names if any(name in row for row in rows)]
    if asked and drawn.random() < 0.7:
        rows.append("ask " + drawn.choice(asked))
    return rows
