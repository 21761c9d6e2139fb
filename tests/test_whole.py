"""Whole lines of all twelve calls, beside the same reckoned by sets and fractions."""

import fractions
import itertools
import random
import unittest

from tests.asking import (
    MOST_CALLS, Case, Kept, ask, begin, buy, buy_all, covers, drop, fewest, least, look, matches, needed, next_ticket,
    pays, worst)
from wheeldraw.wheel import answers


def rows(n, size):
    return list(itertools.combinations(range(n), size))


def right(ticket, draw):
    return len(set(ticket) & set(draw))


class ByHand:
    """The document's words taken one by one; slow, and with nothing of the package."""

    def __init__(self):
        self.sizes = None
        self.tickets = []

    def answer(self, call):
        number, given = call[0], call[1:]
        if number == 0:
            return self.begin(*given)
        if self.sizes is None:
            return [-9]
        if number in (1, 4, 10):
            given = [given[1:]]
        n, k, t = self.sizes
        if number in (6, 7, 8, 9, 11) and (given[0] > k or (given[0] == 0 and number != 6)):
            return [-1]
        names = {
            1: self.buy, 2: self.drop, 3: self.look, 4: self.matches, 5: self.worst, 6: self.covers,
            7: self.next, 8: self.fewest, 9: self.needed, 10: self.pays, 11: self.least}
        return names[number](*given)

    def best(self, draw, tickets):
        return max([right(ticket, draw) for ticket in tickets], default=0)

    def covered(self, m, tickets):
        return [draw for draw in self.draws if self.best(draw, tickets) >= m]

    def surely(self, tickets):
        return min(self.best(draw, tickets) for draw in self.draws)

    def begin(self, n, k, t):
        if not (2 <= n <= 10 and 1 <= k <= 6 and 1 <= t <= 6 and k <= n and t <= n):
            return [-1]
        self.sizes = (n, k, t)
        self.tickets = []
        self.choices = rows(n, k)
        self.draws = rows(n, t)
        return [0, len(self.choices), len(self.draws)]

    def buy(self, ticket):
        if tuple(ticket) not in self.choices:
            return [-1]
        if tuple(ticket) in self.tickets:
            return [-4]
        if len(self.tickets) == 30:
            return [-5]
        self.tickets.append(tuple(ticket))
        return [self.tickets.index(tuple(ticket))]

    def drop(self, place):
        if place not in range(len(self.tickets)):
            return [-2]
        del self.tickets[place]
        return [len(self.tickets)]

    def look(self):
        return [len(self.tickets), *itertools.chain(*self.tickets)]

    def matches(self, draw):
        if tuple(draw) not in self.draws:
            return [-1]
        return [self.best(draw, self.tickets), *[right(ticket, draw) for ticket in self.tickets]]

    def worst(self):
        least_best = self.surely(self.tickets)
        return [least_best, *[draw for draw in self.draws if self.best(draw, self.tickets) == least_best][0]]

    def covers(self, m):
        count = len(self.covered(m, self.tickets))
        part = fractions.Fraction(count, len(self.draws))
        return [count, len(self.draws), part.numerator, part.denominator]

    def next(self, m):
        now = len(self.covered(m, self.tickets))
        more = [len(self.covered(m, [*self.tickets, ticket])) - now for ticket in self.choices]
        if max(more) == 0:
            return [-6]
        return [max(more), *self.choices[more.index(max(more))]]

    def fewest(self, m):
        if len(self.choices) > 60:
            return [-7]
        for size in (1, 2, 3):
            for row in itertools.combinations(self.choices, size):
                if all(any(right(ticket, draw) >= m for ticket in row) for draw in self.draws):
                    return [size, *itertools.chain(*row)]
        return [-6]

    def needed(self, m):
        if self.surely(self.tickets) < m:
            return [-6]
        # Whether it is given back or not, each ticket is looked at once.
        given_back = 0
        for ticket in list(self.tickets):
            others = [other for other in self.tickets if other != ticket]
            if self.surely(others) >= m:
                self.tickets = others
                given_back += 1
        return [given_back, len(self.tickets)]

    def pays(self, prizes):
        n, k, t = self.sizes
        if len(prizes) != k + 1 or any(prize > 99999 for prize in prizes):
            return [-1]
        sums = [sum(prizes[right(ticket, draw)] for ticket in self.tickets) for draw in self.draws]
        average = fractions.Fraction(sum(sums), len(sums))
        return [average.numerator, average.denominator, max(sums)]

    def least(self, m):
        count = len([draw for draw in self.draws if right(self.choices[0], draw) >= m])
        if count == 0:
            return [-6]
        return [-(-len(self.draws) // count)]


def line_by_hand(calls):
    wheel = ByHand()
    return [wheel.answer(call) for call in calls]


class Maker:
    """Makes lines, the same ones each time, with a wheel of these sizes in most of their calls."""

    def __init__(self, seed, n, k, t):
        self.luck = random.Random(seed)
        self.n, self.k, self.t = n, k, t

    def line(self, count):
        calls = [] if self.luck.random() < 0.9 else [self.any_call()]
        calls.append(begin(self.n, self.k, self.t))
        calls.extend(buy_all(self.luck.sample(rows(self.n, self.k), self.luck.randrange(self.most_bought() + 1))))
        while len(calls) < count:
            calls.append(self.any_call())
        return calls

    def most_bought(self):
        return min(len(rows(self.n, self.k)), self.luck.choice((0, 1, 3, 8, 20, 30)))

    def row(self, size):
        """A row of that size, for the most part."""
        if self.luck.random() < 0.15:
            return [self.luck.randrange(21) for place in range(self.luck.randrange(8))]
        return self.luck.choice(rows(self.n, size))

    def m(self):
        return self.luck.choice([0, *range(1, self.k + 1), *range(1, self.k + 1), self.k + 1, self.luck.randrange(21)])

    def prizes(self):
        count = self.k + 1 if self.luck.random() < 0.8 else self.luck.randrange(21)
        prizes = [self.luck.choice((0, 1, 5, 12, self.luck.randrange(100000))) for place in range(count)]
        if prizes and self.luck.random() < 0.15:
            prizes[self.luck.randrange(count)] = self.luck.choice((99999, 100000))
        return prizes

    def any_call(self):
        number = self.luck.choice((0, 1, 1, 1, 2, 2, 3, 3, 4, 5, 6, 6, 7, 7, 8, 9, 9, 10, 10, 11))
        if number == 0:
            # Another begin would end the wheel for all calls behind it, so mostly it is refused.
            return begin(*self.luck.choice([(1, 1, 1), (11, 2, 2), (4, 5, 1), (4, 2, 7), (self.n, self.k, self.t)]))
        given = {
            1: lambda: buy(*self.row(self.k)), 2: lambda: drop(self.luck.randrange(12)), 3: look,
            4: lambda: matches(*self.row(self.t)), 5: worst, 6: lambda: covers(self.m()),
            7: lambda: next_ticket(self.m()), 8: lambda: fewest(self.m()), 9: lambda: needed(self.m()),
            10: lambda: pays(*self.prizes()), 11: lambda: least(self.m())}
        return given[number]()


class WholeCase(Case):
    def check_line(self, calls):
        told = ask(*calls)
        for place, wanted in enumerate(line_by_hand(calls)):
            self.assertEqual(told[place], wanted, calls[:place + 1])
        self.assertEqual(len(told), len(calls))


class Lines(WholeCase):
    def test_small_wheels(self):
        for n in range(2, 7):
            for k, t in itertools.product(range(1, min(n, 6) + 1), repeat=2):
                for seed in range(2):
                    self.check_line(Maker(f"{seed} {n} {k} {t}", n, k, t).line(MOST_CALLS))

    def test_large_wheels(self):
        for n, k, t in ((7, 2, 4), (7, 3, 3), (8, 3, 6), (8, 6, 4), (9, 2, 5), (9, 6, 2), (10, 1, 6), (10, 6, 1)):
            self.check_line(Maker(f"{n} {k} {t}", n, k, t).line(25))

    def test_one_line_with_several_wheels(self):
        self.check_line([
            look(), covers(0), begin(10, 3, 2), buy(0, 1, 2), buy(3, 4, 5), buy(6, 7, 8), next_ticket(1),
            covers(1), worst(), least(1), fewest(1), pays(0, 0, 100, 99999), buy(7, 8, 9), covers(1), needed(1),
            begin(7, 2, 6), look(), covers(1), needed(1), next_ticket(1), next_ticket(2), fewest(1), fewest(2),
            buy(3, 4), buy(2, 3), buy(1, 6), worst(), needed(1), look(), drop(0), needed(1), matches(0, 1, 2, 3, 4, 5),
            begin(20, 1, 1), least(1), least(2), pays(1, 2, 3), pays(1, 2), begin(2, 1, 1), fewest(1), needed(1)])


class Sweeps(WholeCase):
    """Each size of a wheel, and each m, for the calls that have one."""

    def test_covers_and_least(self):
        for n in range(2, 11):
            for k, t in itertools.product(range(1, min(n, 6) + 1), repeat=2):
                tickets = rows(n, k)[::-11][:4]
                asked = [call(m) for m in range(k + 2) for call in (covers, least)]
                self.check_line([begin(n, k, t), *asked, *buy_all(tickets), *asked])

    def test_next_and_needed(self):
        for n in range(2, 7):
            for k, t in itertools.product(range(1, min(n, 6) + 1), repeat=2):
                tickets = rows(n, k)
                random.Random(n * 100 + k * 10 + t).shuffle(tickets)
                for m in range(1, k + 1):
                    self.check_line([
                        begin(n, k, t), next_ticket(m), *buy_all(tickets[:2]), next_ticket(m),
                        *buy_all(tickets[2:20]), next_ticket(m), needed(m), look(), next_ticket(m), needed(m)])

    def test_fewest(self):
        for n in range(2, 7):
            for k, t in itertools.product(range(1, min(n, 6) + 1), repeat=2):
                self.check_line([begin(n, k, t), *[fewest(m) for m in range(k + 2)]])


class Form(Case):
    def test_answers_stand_behind_their_counts(self):
        calls = [
            0, 4, 2, 2, 6, 0, 7, 1, 8, 1, 9, 1, 10, 3, 0, 1, 10, 11, 1,
            1, 2, 0, 1, 1, 2, 2, 3, 6, 2, 7, 2, 8, 2, 9, 1, 10, 3, 0, 1, 10, 10, 0, 11, 2, 11, 3]
        told = answers(calls)
        self.assertEqual(told, [
            3, 0, 6, 6, 4, 6, 6, 1, 1, 3, 5, 0, 1, 5, 2, 0, 1, 0, 2, 1, -6, 3, 0, 1, 0, 1, 2,
            1, 0, 1, 1, 4, 2, 6, 1, 3, 3, 1, 0, 2, 1, -6, 2, 0, 2, 3, 14, 3, 10, 1, -1, 1, 6, 1, -1])
        self.assertIs(type(told), list)
        for number in told:
            self.assertIs(type(number), int)

    def test_a_line_of_forty_calls(self):
        tickets = rows(7, 3)[:30]
        calls = [
            begin(7, 3, 4), *buy_all(tickets), covers(2), next_ticket(3), fewest(1), pays(0, 1, 2, 3), least(2),
            needed(1), look(), worst(), drop(0)]
        self.assertEqual(len(calls), MOST_CALLS)
        told = ask(*calls)
        self.assertEqual(told, line_by_hand(calls))
        self.assertEqual(told[36][0] + told[36][1], 30)
        self.assertGreater(told[36][0], 0)

    def test_a_long_line_of_each_call(self):
        before = [begin(7, 3, 4), buy(0, 1, 2), buy(2, 3, 4), buy(4, 5, 6)]
        for call in (covers(2), next_ticket(2), fewest(2), needed(1), pays(1, 22, 333, 4444), least(2)):
            calls = [*before, *[call] * 35, look()]
            self.assertEqual(ask(*calls), line_by_hand(calls))

    def test_the_longest_rows(self):
        calls = [begin(6, 6, 3), *[pays(*[100000] * 20)] * 19, *[pays(*[7] * 20)] * 19, look()]
        self.assertEqual(ask(*calls), [[0, 1, 20], *[[-1]] * 38, [0]])

    def test_what_is_handed_in_is_not_changed(self):
        calls = [
            begin(4, 2, 2), buy(0, 1), buy(0, 2), buy(2, 3), buy(1, 3), covers(1), next_ticket(2), fewest(1),
            pays(0, 1, 10), least(1), needed(1), look(), buy(0, 1), drop(0), look(), pays(0, 1, 10), needed(1)]
        line = [number for call in calls for number in call]
        kept = Kept(line)
        told = answers(kept)
        self.assertEqual(list(kept), line)
        self.assertEqual(told, answers(list(line)))
        self.assertEqual(ask(*calls), line_by_hand(calls))
        self.assertEqual(ask(*calls)[10:12], [[2, 2], [2, 2, 3, 1, 3]])

    def test_one_time_knows_nothing_of_another(self):
        first = [*begin(4, 2, 2), *buy(0, 1), *buy(0, 2), *buy(2, 3), *needed(1), *look()]
        told = answers(first)
        for call in (covers(1), next_ticket(1), fewest(1), needed(1), pays(0, 1, 10), least(1)):
            self.assertEqual(answers(call), [1, -9])
        self.assertEqual(answers(first), told)
        other = [*begin(5, 2, 3), *covers(1), *next_ticket(2), *look()]
        self.assertEqual(answers(other), [3, 0, 10, 10, 4, 0, 10, 0, 1, 3, 3, 0, 1, 1, 0])
        self.assertEqual(answers(first), told)


if __name__ == "__main__":
    unittest.main()
