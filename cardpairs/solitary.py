"""How many turns one needs alone, on average, till all the pairs are taken."""

from cardpairs.draws import NOTHING, first_average, places, second_average
from cardpairs.fraction import minus, plus, smaller


def bold_turns(n, k, turns):
    """The turns behind a new first card and a bold second one."""
    taken = turns[(n - 1, k)]
    # The pair that is known but not taken costs a turn of its own at last.
    known = plus(taken, (1, 1))
    return second_average(n, k, taken, known, turns.get((n, k + 2), NOTHING))


def meek_turns(n, k, turns):
    return turns[(n, k + 1)]


def turns_from(n, k, turns):
    if n == k:
        # Each card that isn't known is the mate of a known one.
        return (n, 1)
    mate = turns.get((n - 1, k - 1), NOTHING)
    new = smaller(bold_turns(n, k, turns), meek_turns(n, k, turns))
    return plus(first_average(n, k, mate, new), (1, 1))


def all_turns(n):
    turns = {}
    for place in places(n):
        turns[place] = turns_from(place[0], place[1], turns)
    return turns


def fewest_on_average(n, k, c):
    return plus(all_turns(n)[(n, k)], (c, 1))


def always_meek(n, k, c):
    # A meek turn turns up just one card that isn't known, so chance has no part in it.
    return (2 * n - k + c, 1)


def saved_by_bold(n, k):
    """How many turns bold saves behind a new first card; below 0 where meek is better."""
    turns = all_turns(n)
    return minus(meek_turns(n, k, turns), bold_turns(n, k, turns))
