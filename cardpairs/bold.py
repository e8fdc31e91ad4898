"""Alone and always bold: how likely so many turns are enough, how few can be, how many are needed."""

from cardpairs.draws import NOTHING, first_average, places, second_average


def chance_from(n, k, turns, chances):
    if n == k:
        # Each turn takes a pair.
        return (1, 1) if turns >= n else NOTHING
    mate = chances.get((n - 1, k - 1, turns - 1), NOTHING)
    taken = chances.get((n - 1, k, turns - 1), NOTHING)
    # The pair that is known but not taken costs a turn of its own at last.
    known = chances.get((n - 1, k, turns - 2), NOTHING)
    both_new = chances.get((n, k + 2, turns - 1), NOTHING)
    return first_average(n, k, mate, second_average(n, k, taken, known, both_new))


def chance_within(n, k, c, most):
    """How likely no more than so many turns are needed."""
    chances = {}
    for turns in range(most - c + 1):
        for place in places(n):
            chances[(place[0], place[1], turns)] = chance_from(place[0], place[1], turns, chances)
    return chances.get((n, k, most - c), NOTHING)


def fewest_turns(n, c):
    # No turn takes more than one pair, and with luck each takes one.
    return n + c


def most_from(n, k, needed):
    if n == k:
        return n
    taken = needed[(n - 1, k)]
    found = [taken + 1]
    if k > 0:
        found.append(needed[(n - 1, k - 1)] + 1)
        found.append(taken + 2)
    if n - k > 1:
        found.append(needed[(n, k + 2)] + 1)
    return max(found)


def most_turns(n, k, c):
    needed = {}
    for place in places(n):
        needed[place] = most_from(place[0], place[1], needed)
    return needed[(n, k)] + c
