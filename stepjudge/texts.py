"""Lines shown as texts, in the form in which they are read."""

from stepjudge.fractions import shown

ZERO = (0, 1)
ONE = (1, 1)
LESS_ONE = (-1, 1)


def shown_term(name, part):
    if part == ONE:
        return name
    if part == LESS_ONE:
        return "-" + name
    return shown(part) + "*" + name


def shown_sum(names, parts):
    terms = [shown_term(name, part) for name, part in zip(names, parts) if part != ZERO]
    if not terms:
        return "0"
    # A term below 0 brings its own sign.
    return "+".join(terms).replace("+-", "-")


def shown_line(names, line):
    return " ".join([shown_sum(names, line[1]), line[0], shown(line[2])])
