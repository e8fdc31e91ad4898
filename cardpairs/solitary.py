"""How many turns one needs alone, on average, till all the pairs are taken."""

from cardpairs.fraction import average, plus, smaller


def bold_turns(n, k, turns):
    """The turns behind a new first card and a bold second one."""
    taken = turns[(n - 1, k)]
    # The pair that is known but not taken costs a turn of its own at last.
    cases = [(1, taken), (k, plus(taken, (1, 1)))]
    if n - k > 1:
        cases.append((2 * (n - k - 1), turns[(n, k + 2)]))
    return average(cases)


def turns_from(n, k, turns):
    if n == 0:
        return (0, 1)
    cases = []
    if k > 0:
        cases.append((k, turns[(n - 1, k - 1)]))
    if n > k:
        chosen = smaller(bold_turns(n, k, turns), turns[(n, k + 1)])
        cases.append((2 * (n - k), chosen))
    return plus(average(cases), (1, 1))


def fewest_on_average(n, k, c):
    turns = {}
    for left in range(n + 1):
        # A turn leaves fewer pictures, or as many with more known: these come first.
        for known in range(left, -1, -1):
            turns[(left, known)] = turns_from(left, known, turns)
    return plus(turns[(n, k)], (c, 1))


def always_meek(n, k, c):
    # A meek turn turns up just one card that isn't known, so chance has no part in it.
    return (2 * n - k + c, 1)
