"""Asks the program in rows of one call each, takes its answers apart, and plays real games."""

from cardpairs.remembered import answers

TABLE, COMES, SHOWS, ALONE, MEEK, BEST, LEAD, OVER, CHANCES, FEWEST = range(10)
LARGEST = 4294967295

ALL_PLACES = [(n, k) for n in range(10) for k in range(n + 1)]
ALL_TABLES = [(n, k, c) for n, k in ALL_PLACES for c in range(10)]


def told(rows):
    return [number for row in rows for number in row]


def taken_apart(given, how_many):
    rows = []
    place = 0
    for _ in range(how_many):
        size = given[place]
        rows.append(given[place + 1:place + 1 + size])
        if len(rows[-1]) != size:
            raise AssertionError("fewer numbers than counted: %r" % (given,))
        place += 1 + size
    if place != len(given):
        raise AssertionError("numbers behind the last answer: %r" % (given,))
    return rows


def ask(*rows):
    return taken_apart(answers(told(rows)), len(rows))


def fraction_row(value):
    return [0, value.numerator, value.denominator]


def cards_left(n, k):
    """How many cards of each picture aren't known."""
    return (1,) * k + (2,) * (n - k)


def orders(left):
    """Every order of the cards that aren't known; left[p] cards of picture p."""
    if not any(left):
        yield ()
        return
    for picture, many in enumerate(left):
        if many:
            fewer = left[:picture] + (many - 1,) + left[picture + 1:]
            for rest in orders(fewer):
                yield (picture,) + rest


def played(order, k, is_bold):
    """The turns of one real game, card by card."""
    known = set(range(k))
    pictures = set(order)
    place = turns = both_known = 0
    while place < len(order):
        turns += 1
        first = order[place]
        place += 1
        if first in known:
            known.remove(first)
            pictures.remove(first)
            continue
        choose_bold = is_bold(len(pictures), len(known))
        known.add(first)
        if not choose_bold:
            continue
        second = order[place]
        place += 1
        if second in known:
            known.remove(second)
            pictures.remove(second)
            both_known += second != first
        else:
            known.add(second)
    return turns + both_known
