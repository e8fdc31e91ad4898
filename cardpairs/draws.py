"""What the cards of a turn can be, each as likely as it has cards among those that aren't known."""

from cardpairs.fraction import average, lowest

# Stands for what can't come: it has no cards, so it adds nothing.
NOTHING = (0, 1)


def first_cards(n, k):
    """How many cards are the mate of a known one, and how many are new."""
    return (k, 2 * (n - k))


def second_cards(n, k):
    """Behind a new one, how many are its mate, the mate of a known one, and new."""
    return (1, k, 2 * (n - k - 1))


def first_average(n, k, mate, new):
    return average(list(zip(first_cards(n, k), (mate, new))))


def second_average(n, k, its_mate, known_mate, new):
    return average(list(zip(second_cards(n, k), (its_mate, known_mate, new))))


def likelihoods(n, k):
    """The four chances that a table tells, where one picture at least is left that isn't known."""
    first = first_cards(n, k)
    second = second_cards(n, k)
    found = [lowest(first[0], sum(first))]
    for cards in second:
        found.append(lowest(cards, sum(second)))
    return found


def places(n):
    """Each (pictures, known ones) up to n, behind all that a turn from it can lead to."""
    found = []
    for left in range(n + 1):
        # A turn leaves fewer pictures, or as many with more known.
        for known in range(left, -1, -1):
            found.append((left, known))
    return found
