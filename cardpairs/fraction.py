"""Fractions as tuples (above, below), in lowest terms, with below above 0."""


def common(one, other):
    while other != 0:
        rest = one % other
        one = other
        other = rest
    return one


def lowest(above, below):
    shared = common(above, below)
    return (above // shared, below // shared)


def plus(one, other):
    return lowest(one[0] * other[1] + other[0] * one[1], one[1] * other[1])


def opposite(one):
    return (-one[0], one[1])


def minus(one, other):
    return plus(one, opposite(other))


def smaller(one, other):
    if minus(other, one)[0] >= 0:
        return one
    return other


def larger(one, other):
    if minus(one, other)[0] >= 0:
        return one
    return other


def average(cases):
    """The average of cases (weight, fraction); one weight at least is above 0."""
    total = (0, 1)
    weights = 0
    for case in cases:
        weight = case[0]
        value = case[1]
        total = plus(total, (weight * value[0], value[1]))
        weights += weight
    return lowest(total[0], total[1] * weights)
