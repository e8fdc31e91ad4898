"""The one table that a line's calls are about."""

from cardpairs.solitary import always_meek, fewest_on_average

MOST_PICTURES = 9
MOST_BOTH_KNOWN = 9

NOT_LET = -1
CANNOT_BE = -2

# For each x of comes: how many pictures it asks for of which one card is known,
# of which none is, and of which both are.
NEEDS = ((1, 0, 0), (0, 1, 0), (1, 1, 0), (0, 2, 0), (0, 1, 0), (0, 0, 1))
# For each x of comes: what is added to n, k and c.
CHANGES = ((-1, -1, 0), (-1, 0, 0), (-1, 0, 1), (0, 2, 0), (0, 1, 0), (0, 0, -1))


class Board:
    """Each method that stands for a call answers a list of whole numbers."""

    def __init__(self):
        self.n = 0
        self.k = 0
        self.c = 0

    def table(self, n, k, c):
        if n > MOST_PICTURES or k > n or c > MOST_BOTH_KNOWN:
            return [NOT_LET]
        self.n = n
        self.k = k
        self.c = c
        return [2 * (n + c)]

    def can_come(self, x):
        need = NEEDS[x]
        return self.k >= need[0] and self.n - self.k >= need[1] and self.c >= need[2]

    def comes(self, x):
        if x >= len(CHANGES):
            return [NOT_LET]
        if not self.can_come(x):
            return [CANNOT_BE]
        change = CHANGES[x]
        self.n += change[0]
        self.k += change[1]
        self.c += change[2]
        return self.shows()

    def shows(self):
        return [self.n, self.k, self.c]

    def alone(self):
        turns = fewest_on_average(self.n, self.k, self.c)
        return [0, turns[0], turns[1]]

    def meek(self):
        turns = always_meek(self.n, self.k, self.c)
        return [0, turns[0], turns[1]]
