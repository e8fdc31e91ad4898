"""How many pairs more than the other one the one of two at turn takes, on average."""

from cardpairs.draws import NOTHING, first_average, places, second_average
from cardpairs.fraction import larger, minus, opposite, plus


def lead_with(n, k, new, leads):
    """The lead ahead of the first card, where a new one brings the lead new."""
    # Who takes a pair goes on.
    mate = plus(leads.get((n - 1, k - 1), NOTHING), (1, 1))
    return first_average(n, k, mate, new)


def bold_lead(n, k, leads):
    taken = plus(leads[(n - 1, k)], (1, 1))
    # The pair that is known but not taken is the other one's, who goes on behind it.
    known = opposite(taken)
    both_new = opposite(leads.get((n, k + 2), NOTHING))
    return lead_with(n, k, second_average(n, k, taken, known, both_new), leads)


def meek_lead(n, k, leads):
    return lead_with(n, k, opposite(leads[(n, k + 1)]), leads)


def lead_from(n, k, leads):
    if n == k:
        # Each card that isn't known is the mate of a known one: all are taken at once.
        return (n, 1)
    return larger(bold_lead(n, k, leads), meek_lead(n, k, leads))


def all_leads(n):
    leads = {}
    for place in places(n):
        leads[place] = lead_from(place[0], place[1], leads)
    return leads


def lead_at_turn(n, k, c):
    return plus(all_leads(n)[(n, k)], (c, 1))


def gained_by_bold(n, k):
    """How much better the lead is with bold; below 0 where meek is better."""
    leads = all_leads(n)
    return minus(bold_lead(n, k, leads), meek_lead(n, k, leads))
