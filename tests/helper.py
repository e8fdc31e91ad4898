"""Asks the program in rows of one call each, and takes its answers apart."""

from cardpairs.remembered import answers

TABLE, COMES, SHOWS, ALONE, MEEK = range(5)
LARGEST = 4294967295

ALL_PLACES = [(n, k) for n in range(10) for k in range(n + 1)]
ALL_TABLES = [(n, k, c) for n, k in ALL_PLACES for c in range(10)]


def told(rows):
    return [number for row in rows for number in row]


def taken_apart(given, how_many):
    rows = []
    place = 0
    for _ in range(how_many):
        size = given[place]
        rows.append(given[place + 1:place + 1 + size])
        if len(rows[-1]) != size:
            raise AssertionError("fewer numbers than counted: %r" % (given,))
        place += 1 + size
    if place != len(given):
        raise AssertionError("numbers behind the last answer: %r" % (given,))
    return rows


def ask(*rows):
    return taken_apart(answers(told(rows)), len(rows))
