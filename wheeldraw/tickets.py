"""The wheel itself: its numbers, its tickets, its draws, and what is right on them."""

MOST_TICKETS = 30

# Fewest looks for rows of so many tickets at most, among so many different ones at most.
LONGEST_ROW = 3
MOST_DIFFERENT = 60

MOST_PRIZE = 99999


def rising_rows(n, size):
    """All rows of size different numbers from 0 to n - 1, each rising, in order."""
    rows = [[]]
    for length in range(size):
        longer = []
        for row in rows:
            start = row[-1] + 1 if row else 0
            for number in range(start, n):
                longer.append(row + [number])
        rows = longer
    return rows


def is_rising_row(row, size, n):
    """Whether the row is size numbers from 0 to n - 1, in rising order."""
    if len(row) != size:
        return False
    least = 0
    for number in row:
        if number < least or number >= n:
            return False
        least = number + 1
    return True


def is_size(size, n):
    """Whether a ticket or a draw of n numbers may have so many."""
    return 1 <= size and size <= 6 and size <= n


def count_right(ticket, draw):
    """How many of the ticket's numbers are drawn."""
    return len([number for number in ticket if number in draw])


def count_bits(draws):
    """How many draws there are among these, which are kept as bits."""
    count = 0
    while draws > 0:
        # One less turns the lowest bit off, and on only bits below it.
        draws = draws & (draws - 1)
        count = count + 1
    return count


def draws_with(number, draws):
    """Those draws in which the number is, as bits: bit 0 for the first draw."""
    found = 0
    for place, draw in enumerate(draws):
        if number in draw:
            found = found | (1 << place)
    return found


def lowest_terms(above, below):
    """The fraction as two numbers in lowest terms; below is above 0."""
    divisor = below
    rest = above
    while rest > 0:
        smaller = divisor % rest
        divisor = rest
        rest = smaller
    return [above // divisor, below // divisor]


class Wheel:
    """One wheel; before the first begin that is not refused there is none yet.

    Each call gives back the list of numbers that it answers; a refusal is a
    list of its number alone. Where many draws are asked about at once, they
    are kept as the bits of one whole number, so that no draw is gone through
    by itself for each ticket.
    """

    def __init__(self):
        self.begun = False
        self.n = 0
        self.k = 0
        self.t = 0
        self.tickets = []
        self.choices = []
        self.draws = []
        self.all_draws = 0
        self.drawn_with = []

    def begin(self, n, k, t):
        """A wheel without tickets: 0, how many tickets and draws there can be."""
        if n < 2 or n > 10 or not is_size(k, n) or not is_size(t, n):
            return [-1]
        self.begun = True
        self.n = n
        self.k = k
        self.t = t
        self.tickets = []
        self.choices = rising_rows(n, k)
        self.draws = rising_rows(n, t)
        self.all_draws = (1 << len(self.draws)) - 1
        self.drawn_with = [draws_with(number, self.draws) for number in range(n)]
        return [0, len(self.choices), len(self.draws)]

    def buy(self, ticket):
        """One ticket more, behind the others: its place."""
        if not is_rising_row(ticket, self.k, self.n):
            return [-1]
        if ticket in self.tickets:
            return [-4]
        if len(self.tickets) >= MOST_TICKETS:
            return [-5]
        self.tickets.append(list(ticket))
        return [len(self.tickets) - 1]

    def drop(self, place):
        """The ticket at that place is given back: how many are left."""
        if place >= len(self.tickets):
            return [-2]
        self.tickets.pop(place)
        return [len(self.tickets)]

    def look(self):
        """How many tickets there are, then their numbers, in their places' order."""
        told = [len(self.tickets)]
        for ticket in self.tickets:
            told.extend(ticket)
        return told

    def matches(self, draw):
        """The draw's best, then how many are right on each ticket."""
        if not is_rising_row(draw, self.t, self.n):
            return [-1]
        return [self.best(draw)] + [count_right(ticket, draw) for ticket in self.tickets]

    def worst(self):
        """How many are surely right, then the first draw whose best is so few."""
        # Of several that are least, min takes the first, and the draws stand in order.
        draw = min(self.draws, key=self.best)
        return [self.best(draw)] + draw

    def best(self, draw):
        """The most that is right on one ticket; 0 without tickets."""
        return max([count_right(ticket, draw) for ticket in self.tickets], default=0)

    def covers(self, m):
        """How many draws are covered, how many there are, and the one by the other."""
        if m > self.k:
            return [-1]
        count = count_bits(self.covered(self.tickets, m))
        return [count, len(self.draws)] + lowest_terms(count, len(self.draws))

    def next_ticket(self, m):
        """How many draws more the first of the best tickets would cover, then that ticket."""
        if not self.is_wanted(m):
            return [-1]
        missing = self.all_draws ^ self.covered(self.tickets, m)
        most = 0
        found = []
        for ticket in self.choices:
            more = count_bits(self.covered_by(ticket, m) & missing)
            if more > most:
                most = more
                found = ticket
        return [most] + found if most > 0 else [-6]

    def fewest(self, m):
        """The fewest tickets by which m are surely right: how many, then their numbers."""
        if not self.is_wanted(m):
            return [-1]
        if len(self.choices) > MOST_DIFFERENT:
            return [-7]
        by_choice = [self.covered_by(ticket, m) for ticket in self.choices]
        for size in range(1, LONGEST_ROW + 1):
            # The tickets stand in order, so rows of their places do, too.
            for row in rising_rows(len(by_choice), size):
                found = 0
                for place in row:
                    found = found | by_choice[place]
                if found == self.all_draws:
                    return [size] + self.numbers_of(row)
        return [-6]

    def needed(self, m):
        """Gives back what m stay surely right without: how many tickets, how many are left."""
        if not self.is_wanted(m):
            return [-1]
        if self.covered(self.tickets, m) != self.all_draws:
            return [-6]
        before = len(self.tickets)
        place = 0
        while place < len(self.tickets):
            others = self.tickets[:place] + self.tickets[place + 1:]
            if self.covered(others, m) == self.all_draws:
                self.tickets = others
            else:
                place = place + 1
        return [before - len(self.tickets), len(self.tickets)]

    def pays(self, prizes):
        """What is paid on average, as a fraction, and the most for one draw."""
        if len(prizes) != self.k + 1 or max(prizes) > MOST_PRIZE:
            return [-1]
        sums = [self.paid(draw, prizes) for draw in self.draws]
        return lowest_terms(sum(sums), len(sums)) + [max(sums)]

    def least(self, m):
        """All draws by those that one ticket covers, rounded up."""
        if not self.is_wanted(m):
            return [-1]
        # Each ticket covers as many, so the first one tells it of all.
        count = count_bits(self.covered_by(self.choices[0], m))
        if count == 0:
            return [-6]
        return [(len(self.draws) + count - 1) // count]

    def is_wanted(self, m):
        """Whether one may ask for m right; covers alone lets 0 be asked for, too."""
        return 1 <= m and m <= self.k

    def covered_by(self, ticket, m):
        """The draws in which m of the ticket's numbers at least are right, as bits."""
        reached = [self.all_draws] + [0] * m
        for number in ticket:
            # From m down, so that a number is not counted twice for a draw.
            for right in range(m, 0, -1):
                reached[right] = reached[right] | (reached[right - 1] & self.drawn_with[number])
        return reached[m]

    def covered(self, tickets, m):
        """The draws whose best, on these tickets, is m at least, as bits."""
        # Of no tickets the best is 0, which is enough for 0.
        found = self.all_draws if m == 0 else 0
        for ticket in tickets:
            found = found | self.covered_by(ticket, m)
        return found

    def numbers_of(self, row):
        """The numbers of the different tickets at these places, one behind another."""
        numbers = []
        for place in row:
            numbers.extend(self.choices[place])
        return numbers

    def paid(self, draw, prizes):
        """What all tickets together are paid for the draw."""
        return sum([prizes[count_right(ticket, draw)] for ticket in self.tickets])
