"""The one table that a line's calls are about."""

from cardpairs.bold import chance_within, fewest_turns, most_turns
from cardpairs.draws import likelihoods
from cardpairs.rivals import gained_by_bold, lead_at_turn
from cardpairs.solitary import always_meek, fewest_on_average, saved_by_bold

MOST_PICTURES = 9
MOST_BOTH_KNOWN = 9
MOST_TURNS = 40

NOT_LET = -1
CANNOT_BE = -2
ALL_SEEN = -6

MEEK_IS_BEST = 0
BOLD_IS_BEST = 1
BOTH_AS_GOOD = 2

# For each x of comes: how many pictures it asks for of which one card is known,
# of which none is, and of which both are.
NEEDS = ((1, 0, 0), (0, 1, 0), (1, 1, 0), (0, 2, 0), (0, 1, 0), (0, 0, 1))
# For each x of comes: what is added to n, k and c.
CHANGES = ((-1, -1, 0), (-1, 0, 0), (-1, 0, 1), (0, 2, 0), (0, 1, 0), (0, 0, -1))


def what_is_best(gain):
    """Told by how much better bold is than meek."""
    if gain[0] > 0:
        return BOLD_IS_BEST
    if gain[0] < 0:
        return MEEK_IS_BEST
    return BOTH_AS_GOOD


class Board:
    """Each method that stands for a call answers a list of whole numbers."""

    def __init__(self):
        self.n = 0
        self.k = 0
        self.c = 0

    def table(self, n, k, c):
        if n > MOST_PICTURES or k > n or c > MOST_BOTH_KNOWN:
            return [NOT_LET]
        self.n = n
        self.k = k
        self.c = c
        return [2 * (n + c)]

    def can_come(self, x):
        need = NEEDS[x]
        return self.k >= need[0] and self.n - self.k >= need[1] and self.c >= need[2]

    def comes(self, x):
        if x >= len(CHANGES):
            return [NOT_LET]
        if not self.can_come(x):
            return [CANNOT_BE]
        change = CHANGES[x]
        self.n += change[0]
        self.k += change[1]
        self.c += change[2]
        return self.shows()

    def shows(self):
        return [self.n, self.k, self.c]

    def alone(self):
        turns = fewest_on_average(self.n, self.k, self.c)
        return [0, turns[0], turns[1]]

    def meek(self):
        turns = always_meek(self.n, self.k, self.c)
        return [0, turns[0], turns[1]]

    def best(self):
        if self.n == self.k:
            return [ALL_SEEN]
        # The c pairs are left out: they add as much to bold as to meek.
        saved = saved_by_bold(self.n, self.k)
        gained = gained_by_bold(self.n, self.k)
        return [what_is_best(saved), what_is_best(gained), abs(gained[0]), gained[1]]

    def lead(self):
        ahead = lead_at_turn(self.n, self.k, self.c)
        return [0, ahead[0], ahead[1]]

    def over(self, t):
        if t > MOST_TURNS:
            return [NOT_LET]
        chance = chance_within(self.n, self.k, self.c, t)
        return [0, chance[0], chance[1]]

    def chances(self):
        if self.n == self.k:
            return [ALL_SEEN]
        numbers = [0]
        for chance in likelihoods(self.n, self.k):
            numbers.extend(chance)
        return numbers

    def fewest(self):
        return [fewest_turns(self.n, self.c), most_turns(self.n, self.k, self.c)]
