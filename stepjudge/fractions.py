"""Exact fractions: tuples (n, d) in lowest terms, d 1 or more."""


def common_divisor(a, b):
    while b != 0:
        rest = a % b
        a = b
        b = rest
    return a


def make(n, d):
    divisor = common_divisor(abs(n), abs(d))
    # The sign goes up, so that equal fractions are equal tuples.
    if d < 0:
        divisor = -divisor
    return (n // divisor, d // divisor)


def plus(a, b):
    return make(a[0] * b[1] + b[0] * a[1], a[1] * b[1])


def minus(a, b):
    return make(a[0] * b[1] - b[0] * a[1], a[1] * b[1])


def times(a, b):
    return make(a[0] * b[0], a[1] * b[1])


def over(a, b):
    return make(a[0] * b[1], a[1] * b[0])


def below(a, b):
    return a[0] * b[1] < b[0] * a[1]


def figures(n):
    # Python's str refuses a number of some thousand figures, so it is given sixty at a time.
    chunk = 10 ** 60
    pieces = []
    while n >= chunk:
        pieces.append(str(n % chunk).zfill(60))
        n = n // chunk
    pieces.append(str(n))
    pieces.reverse()
    return "".join(pieces)


def shown(a):
    ahead = "-" if a[0] < 0 else ""
    number = figures(abs(a[0]))
    if a[1] == 1:
        return ahead + number
    return ahead + number + "/" + figures(a[1])
