"""The wheel itself: its numbers, its tickets, its draws, and what is right on them."""

MOST_TICKETS = 30


def rising_rows(n, size):
    """All rows of size different numbers from 0 to n - 1, each rising, in order."""
    rows = [[]]
    for length in range(size):
        longer = []
        for row in rows:
            start = row[-1] + 1 if row else 0
            for number in range(start, n):
                longer.append(row + [number])
        rows = longer
    return rows


def is_rising_row(row, size, n):
    """Whether the row is size numbers from 0 to n - 1, in rising order."""
    if len(row) != size:
        return False
    least = 0
    for number in row:
        if number < least or number >= n:
            return False
        least = number + 1
    return True


def is_size(size, n):
    """Whether a ticket or a draw of n numbers may have so many."""
    return 1 <= size and size <= 6 and size <= n


def count_right(ticket, draw):
    """How many of the ticket's numbers are drawn."""
    return len([number for number in ticket if number in draw])


class Wheel:
    """One wheel; before the first begin that is not refused there is none yet.

    Each call gives back the list of numbers that it answers; a refusal is a
    list of its number alone.
    """

    def __init__(self):
        self.begun = False
        self.n = 0
        self.k = 0
        self.t = 0
        self.tickets = []
        self.draws = []

    def begin(self, n, k, t):
        """A wheel without tickets: 0, how many tickets and draws there can be."""
        if n < 2 or n > 10 or not is_size(k, n) or not is_size(t, n):
            return [-1]
        self.begun = True
        self.n = n
        self.k = k
        self.t = t
        self.tickets = []
        self.draws = rising_rows(n, t)
        return [0, len(rising_rows(n, k)), len(self.draws)]

    def buy(self, ticket):
        """One ticket more, behind the others: its place."""
        if not is_rising_row(ticket, self.k, self.n):
            return [-1]
        if ticket in self.tickets:
            return [-4]
        if len(self.tickets) >= MOST_TICKETS:
            return [-5]
        self.tickets.append(list(ticket))
        return [len(self.tickets) - 1]

    def drop(self, place):
        """The ticket at that place is given back: how many are left."""
        if place >= len(self.tickets):
            return [-2]
        self.tickets.pop(place)
        return [len(self.tickets)]

    def look(self):
        """How many tickets there are, then their numbers, in their places' order."""
        told = [len(self.tickets)]
        for ticket in self.tickets:
            told.extend(ticket)
        return told

    def matches(self, draw):
        """The draw's best, then how many are right on each ticket."""
        if not is_rising_row(draw, self.t, self.n):
            return [-1]
        return [self.best(draw)] + [count_right(ticket, draw) for ticket in self.tickets]

    def worst(self):
        """How many are surely right, then the first draw whose best is so few."""
        # Of several that are least, min takes the first, and the draws stand in order.
        draw = min(self.draws, key=self.best)
        return [self.best(draw)] + draw

    def best(self, draw):
        """The most that is right on one ticket; 0 without tickets."""
        return max([count_right(ticket, draw) for ticket in self.tickets], default=0)
