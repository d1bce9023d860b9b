"""Needed rows: the fewest of the others from which a line follows."""

from stepjudge.follows import follows


def one_longer(choices, many):
    # Choices that go by their places make longer ones that do, so the first that is enough is the first by its places.
    longer = []
    for places in choices:
        start = places[-1] + 1 if places else 0
        for place in range(start, many):
            longer.append(places + [place])
    return longer


def first_enough(line, others, choices):
    for places in choices:
        if follows(line, [others[place] for place in places])[0] == "follows":
            return places
    return None


def needed(line, others):
    if follows(line, others)[0] == "breaks":
        return None
    choices = [[]]
    found = first_enough(line, others, choices)
    # The choice of all others is enough, so the search ends.
    while found is None:
        choices = one_longer(choices, len(others))
        found = first_enough(line, others, choices)
    return found
