"""Works judged: what follows, what is wrong first, and what stands on given rows alone."""

from stepjudge.follows import follows


def given_lines(work):
    return [row[1] for row in work[1] if row[0] == "given"]


def named_lines(work, place):
    rows = work[1]
    return [rows[named][1] for named in rows[place][2]]


def verdict_of(work, place):
    return follows(work[1][place][1], named_lines(work, place))


def judged(work):
    return [(place, verdict_of(work, place)) for place, row in enumerate(work[1]) if row[0] == "so"]


def first_wrong(work):
    for place, verdict in judged(work):
        if verdict[0] == "breaks":
            return place
    return None


def is_grounded(work, place, above):
    row = work[1][place]
    if row[0] == "given":
        return True
    return all([named in above for named in row[2]]) and verdict_of(work, place)[0] == "follows"


def grounded(work):
    places = []
    for place in range(len(work[1])):
        if is_grounded(work, place, places):
            places.append(place)
    return places
