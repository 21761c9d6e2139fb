"""Promises 7 to 12, each asked through wheeldraw.wheel.answers."""

import itertools
import unittest

from tests.asking import (
    Case, ask, begin, buy, buy_all, covers, drop, fewest, least, look, matches, needed, next_ticket, pays, worst)

CALLS_WITH_M = {
    "covers": covers, "next": next_ticket, "fewest": fewest, "needed": needed, "least": least}

EVERYTHING = {(n, k): list(itertools.combinations(range(n), k)) for n in range(2, 11) for k in range(1, 7)}


def start(n, k, t, *tickets):
    """A wheel with these tickets."""
    return [begin(n, k, t), *buy_all(tickets)]


def surely_right(n, t, tickets):
    """How many are surely right on these tickets, reckoned by sets."""
    draws = itertools.combinations(range(n), t)
    return min(max(len(set(draw) & set(ticket)) for ticket in tickets) for draw in draws)


class CoveringCase(Case):
    def check_last(self, before, *pairs):
        """The pairs' calls stand behind these in one line and are answered so."""
        told = ask(*before, *[call for call, answer in pairs])
        self.assertEqual(told[len(before):], [answer for call, answer in pairs], before)


class WrongM(CoveringCase):
    wheels = [
        start(5, 2, 3),
        start(5, 2, 3, (0, 2), (1, 4)),
        start(5, 3, 2, (0, 1, 2)),
        start(4, 2, 2, (0, 1), (0, 2), (2, 3), (1, 3)),
    ]

    def test_above_k(self):
        for before in self.wheels:
            k = before[0][2]
            for call in CALLS_WITH_M.values():
                for m in range(k + 1, 21):
                    self.check_refused(before, call(m), -1)

    def test_nought_is_refused_but_by_covers(self):
        for before in self.wheels:
            for name, call in CALLS_WITH_M.items():
                if name != "covers":
                    self.check_refused(before, call(0), -1)

    def test_k_itself_is_not_refused_so(self):
        for n, k, t in ((2, 1, 1), (5, 2, 3), (5, 3, 3), (6, 6, 6), (10, 6, 2), (10, 6, 6)):
            for name, call in CALLS_WITH_M.items():
                self.assertNotEqual(ask(begin(n, k, t), call(k))[1], [-1], (n, k, t, name))

    def test_the_k_of_the_last_begin(self):
        for call in CALLS_WITH_M.values():
            told = ask(begin(5, 3, 2), begin(5, 2, 2), call(3), begin(5, 3, 2), call(3))
            self.assertEqual(told[2], [-1])
            self.assertNotEqual(told[4], [-1])


class WithoutWheel(CoveringCase):
    def test_each_call_also_where_it_would_be_refused(self):
        calls = [call(m) for call in CALLS_WITH_M.values() for m in (0, 1, 7, 20)]
        calls.extend([pays(), pays(0), pays(0, 1, 2), pays(0, 100000), pays(*[100000] * 20)])
        for call in calls:
            self.assertEqual(ask(call), [[-9]])
            self.assertEqual(ask(begin(5, 6, 1), call, begin(2, 1, 1)), [[-1], [-9], [0, 2, 2]])
        self.assertEqual(ask(*calls), [[-9]] * len(calls))


class Covers(CoveringCase):
    def test_no_tickets(self):
        self.check(
            (begin(5, 2, 3), [0, 10, 10]),
            (covers(0), [10, 10, 1, 1]), (covers(1), [0, 10, 0, 1]), (covers(2), [0, 10, 0, 1]), (covers(3), [-1]),
            (begin(10, 6, 6), [0, 210, 210]), (covers(0), [210, 210, 1, 1]), (covers(6), [0, 210, 0, 1]))

    def test_one_ticket_and_two(self):
        self.check(
            (begin(5, 2, 3), [0, 10, 10]),
            (buy(0, 1), [0]),
            (covers(0), [10, 10, 1, 1]), (covers(1), [9, 10, 9, 10]), (covers(2), [3, 10, 3, 10]),
            (buy(2, 3), [1]),
            (covers(0), [10, 10, 1, 1]), (covers(1), [10, 10, 1, 1]), (covers(2), [6, 10, 3, 5]))

    def test_lowest_terms(self):
        self.check(
            (begin(4, 2, 2), [0, 6, 6]),
            (buy(0, 1), [0]), (covers(2), [1, 6, 1, 6]),
            (buy(0, 2), [1]), (covers(2), [2, 6, 1, 3]),
            (buy(0, 3), [2]), (covers(2), [3, 6, 1, 2]),
            (buy(1, 2), [3]), (covers(2), [4, 6, 2, 3]),
            (buy(1, 3), [4]), (covers(2), [5, 6, 5, 6]),
            (buy(2, 3), [5]), (covers(2), [6, 6, 1, 1]))

    def test_a_draw_covered_twice_counts_once(self):
        self.check_last(start(4, 2, 3, (0, 1), (0, 2)), (covers(2), [3, 4, 3, 4]), (covers(1), [4, 4, 1, 1]))

    def test_m_above_t_but_not_above_k(self):
        self.check_last(
            start(5, 3, 2, (0, 1, 2)),
            (covers(1), [9, 10, 9, 10]), (covers(2), [3, 10, 3, 10]), (covers(3), [0, 10, 0, 1]), (covers(4), [-1]))
        self.check_last(
            start(6, 6, 1, (0, 1, 2, 3, 4, 5)),
            (covers(1), [6, 6, 1, 1]), (covers(2), [0, 6, 0, 1]), (covers(6), [0, 6, 0, 1]), (covers(7), [-1]))

    def test_it_follows_what_is_bought_and_given_back(self):
        self.check(
            (begin(5, 2, 3), [0, 10, 10]), (buy(0, 1), [0]), (buy(2, 3), [1]), (covers(2), [6, 10, 3, 5]),
            (drop(0), [1]), (covers(2), [3, 10, 3, 10]), (drop(0), [0]), (covers(2), [0, 10, 0, 1]),
            (begin(4, 2, 2), [0, 6, 6]), (covers(1), [0, 6, 0, 1]))

    def test_nothing_changes(self):
        self.check_last(
            start(5, 2, 3, (2, 3), (0, 1)),
            (covers(2), [6, 10, 3, 5]), (covers(2), [6, 10, 3, 5]), (look(), [2, 2, 3, 0, 1]))


class Next(CoveringCase):
    def test_no_tickets_yet(self):
        self.check(
            (begin(4, 2, 2), [0, 6, 6]), (next_ticket(1), [5, 0, 1]), (next_ticket(2), [1, 0, 1]),
            (begin(5, 3, 2), [0, 10, 10]), (next_ticket(2), [3, 0, 1, 2]),
            (begin(10, 6, 6), [0, 210, 210]), (next_ticket(6), [1, 0, 1, 2, 3, 4, 5]))

    def test_of_as_good_ones_the_first(self):
        self.check_last(
            start(4, 2, 2, (0, 1)), (next_ticket(1), [1, 0, 2]), (next_ticket(2), [1, 0, 2]))
        self.check_last(
            start(4, 2, 2, (0, 2)), (next_ticket(1), [1, 0, 1]), (next_ticket(2), [1, 0, 1]))
        self.check_last(start(4, 2, 2, (0, 2), (0, 1)), (next_ticket(2), [1, 0, 3]))

    def test_the_best_needs_not_be_the_first(self):
        # 0 2 covers two draws more (2 3 and 2 4), 2 3 covers 3 4, too.
        self.check_last(start(5, 2, 2, (0, 1)), (next_ticket(1), [3, 2, 3]), (next_ticket(2), [1, 0, 2]))

    def test_how_many_more_not_how_many_in_all(self):
        self.check_last(
            start(5, 2, 3, (0, 1)),
            (covers(2), [3, 10, 3, 10]), (next_ticket(2), [3, 2, 3]), (covers(1), [9, 10, 9, 10]),
            (next_ticket(1), [1, 0, 2]))

    def test_of_all_tickets_bought_or_not(self):
        # Every ticket but the last is bought: only it covers more.
        tickets = EVERYTHING[5, 2]
        self.check_last(start(5, 2, 2, *tickets[:-1]), (next_ticket(2), [1, 3, 4]))
        for left_out in tickets:
            bought = [ticket for ticket in tickets if ticket != left_out]
            self.check_last(start(5, 2, 2, *bought), (next_ticket(2), [1, *left_out]))

    def test_thirty_tickets_are_no_hindrance(self):
        tickets = EVERYTHING[8, 3]
        self.check_last(start(8, 3, 3, *tickets[:30]), (next_ticket(3), [1, *tickets[30]]))

    def test_all_draws_are_covered_already(self):
        covered = [
            (start(4, 2, 2, (0, 1), (2, 3)), 1),
            (start(4, 2, 2, *EVERYTHING[4, 2]), 2),
            (start(2, 2, 2, (0, 1)), 2),
            (start(6, 6, 3, (0, 1, 2, 3, 4, 5)), 3)]
        for before, m in covered:
            self.check_refused(before, next_ticket(m), -6)

    def test_m_above_t(self):
        for before in (start(5, 3, 2), start(5, 3, 2, (0, 1, 2)), start(5, 3, 2, (2, 3, 4), (0, 1, 2))):
            self.check_refused(before, next_ticket(3), -6)
            self.assertNotEqual(ask(*before, next_ticket(2))[-1], [-6])

    def test_nothing_changes(self):
        self.check_last(
            start(4, 2, 2, (1, 3)),
            (next_ticket(1), [1, 0, 1]), (look(), [1, 1, 3]), (next_ticket(1), [1, 0, 1]),
            (buy(0, 1), [1]), (next_ticket(1), [-6]), (look(), [2, 1, 3, 0, 1]))


class Fewest(CoveringCase):
    def test_one_ticket(self):
        self.check(
            (begin(4, 2, 3), [0, 6, 4]), (fewest(1), [1, 0, 1]),
            (begin(2, 2, 2), [0, 1, 1]), (fewest(1), [1, 0, 1]), (fewest(2), [1, 0, 1]),
            (begin(6, 5, 5), [0, 6, 6]), (fewest(4), [1, 0, 1, 2, 3, 4]),
            (begin(6, 6, 2), [0, 1, 15]), (fewest(2), [1, 0, 1, 2, 3, 4, 5]))

    def test_two_tickets(self):
        self.check(
            (begin(2, 1, 1), [0, 2, 2]), (fewest(1), [2, 0, 1]),
            (begin(4, 2, 2), [0, 6, 6]), (fewest(1), [2, 0, 1, 0, 2]),
            (begin(4, 2, 3), [0, 6, 4]), (fewest(2), [2, 0, 1, 2, 3]),
            (begin(6, 2, 3), [0, 15, 20]), (fewest(1), [2, 0, 1, 2, 3]))

    def test_three_tickets(self):
        self.check(
            (begin(3, 1, 1), [0, 3, 3]), (fewest(1), [3, 0, 1, 2]),
            (begin(6, 2, 1), [0, 15, 6]), (fewest(1), [3, 0, 1, 2, 3, 4, 5]),
            (begin(5, 2, 1), [0, 10, 5]), (fewest(1), [3, 0, 1, 0, 2, 3, 4]),
            (begin(3, 2, 2), [0, 3, 3]), (fewest(2), [3, 0, 1, 0, 2, 1, 2]))

    def test_all_rows_gone_through(self):
        for n, k, t in ((4, 2, 3), (6, 3, 4), (7, 4, 4), (5, 3, 3), (7, 6, 3)):
            for m in range(1, k + 1):
                rows = [row for size in (1, 2, 3) for row in itertools.combinations(EVERYTHING[n, k], size)]
                found = next((row for row in rows if surely_right(n, t, row) >= m), None)
                wanted = [-6] if found is None else [len(found), *itertools.chain(*found)]
                self.assertEqual(ask(begin(n, k, t), fewest(m))[1], wanted, (n, k, t, m))

    def test_without_regard_to_what_was_bought(self):
        for tickets in ([(0, 1)], [(2, 3), (1, 2)], [(0, 1), (0, 2)], EVERYTHING[4, 2]):
            before = start(4, 2, 2, *tickets)
            self.check_last(
                before, (fewest(1), [2, 0, 1, 0, 2]), (fewest(2), [-6]),
                (look(), [len(tickets), *itertools.chain(*tickets)]), (fewest(1), [2, 0, 1, 0, 2]))

    def test_nothing_changes(self):
        self.check(
            (begin(4, 2, 3), [0, 6, 4]), (fewest(2), [2, 0, 1, 2, 3]), (look(), [0]),
            (covers(1), [0, 4, 0, 1]), (buy(2, 3), [0]), (look(), [1, 2, 3]), (worst(), [1, 0, 1, 2]))

    def test_fifty_six_different_tickets(self):
        self.check(
            (begin(8, 3, 1), [0, 56, 8]), (fewest(1), [3, 0, 1, 2, 0, 3, 4, 5, 6, 7]), (fewest(2), [-6]),
            (begin(8, 5, 1), [0, 56, 8]), (fewest(1), [2, 0, 1, 2, 3, 4, 0, 1, 5, 6, 7]), (fewest(5), [-6]))

    def test_more_than_sixty(self):
        for n, k in ((8, 4), (9, 3), (9, 6), (10, 3), (10, 4), (10, 5), (10, 6)):
            for t in (1, 3, 6):
                for m in range(1, k + 1):
                    self.assertEqual(ask(begin(n, k, t), fewest(m))[1], [-7], (n, k, t, m))
        self.check_refused(start(8, 4, 3), fewest(1), -7)
        self.check_refused(start(9, 3, 2, (0, 1, 2), (3, 4, 5)), fewest(1), -7)

    def test_three_tickets_do_not_do(self):
        self.check_refused(start(4, 1, 1), fewest(1), -6)
        self.check_refused(start(7, 2, 1, (0, 1)), fewest(1), -6)
        self.check_refused(start(4, 2, 2, (0, 1), (2, 3)), fewest(2), -6)
        self.check_refused(start(5, 3, 2, (0, 1, 2)), fewest(3), -6)
        self.check_refused(start(2, 2, 1, (0, 1)), fewest(2), -6)
        self.check_refused(start(10, 1, 1), fewest(1), -6)

    def test_which_refusal_comes_first(self):
        self.check(
            # 70 tickets, and m above t, so that no tickets do.
            (begin(8, 4, 1), [0, 70, 8]), (fewest(0), [-1]), (fewest(5), [-1]), (fewest(20), [-1]),
            (fewest(4), [-7]), (fewest(1), [-7]),
            # 56 tickets, and m above t.
            (begin(8, 3, 1), [0, 56, 8]), (fewest(0), [-1]), (fewest(4), [-1]), (fewest(3), [-6]))


class Needed(CoveringCase):
    """With t 1 and m 1 each number must stand on a ticket; with n 4, t 2 and m 1 three of them must."""

    def test_at_the_first_place_several_one_behind_another(self):
        # Were the one that has moved up passed over, 2 3 would be given back instead of 0 2.
        self.check_last(
            start(4, 2, 2, (0, 1), (0, 2), (2, 3), (1, 3)),
            (needed(1), [2, 2]), (look(), [2, 2, 3, 1, 3]))

    def test_at_the_first_place_alone(self):
        self.check_last(
            start(6, 2, 1, (0, 2), (0, 1), (2, 3), (4, 5)),
            (needed(1), [1, 3]), (look(), [3, 0, 1, 2, 3, 4, 5]))

    def test_in_the_middle(self):
        self.check_last(
            start(6, 2, 1, (0, 1), (1, 2), (2, 3), (1, 3), (4, 5)),
            (needed(1), [2, 3]), (look(), [3, 0, 1, 2, 3, 4, 5]))

    def test_in_the_middle_several_one_behind_another(self):
        self.check_last(
            start(6, 2, 1, (0, 1), (1, 2), (1, 3), (2, 3), (4, 5)),
            (needed(1), [2, 3]), (look(), [3, 0, 1, 2, 3, 4, 5]))

    def test_at_the_end(self):
        self.check_last(
            start(6, 2, 1, (0, 1), (2, 3), (4, 5), (0, 2)),
            (needed(1), [1, 3]), (look(), [3, 0, 1, 2, 3, 4, 5]))
        self.check_last(
            start(6, 2, 1, (0, 1), (2, 3), (4, 5), (0, 2), (0, 4), (2, 4)),
            (needed(1), [3, 3]), (look(), [3, 0, 1, 2, 3, 4, 5]))

    def test_none_is_given_back(self):
        for tickets in ([(0, 1), (2, 3), (4, 5)], [(4, 5), (0, 1), (2, 3)]):
            self.check_last(
                start(6, 2, 1, *tickets),
                (needed(1), [0, 3]), (look(), [3, *itertools.chain(*tickets)]))
        self.check_last(start(4, 2, 3, (2, 3)), (needed(1), [0, 1]), (look(), [1, 2, 3]))

    def test_one_is_always_left(self):
        # Each of them would do alone; the last one stays.
        self.check_last(
            start(4, 2, 3, (0, 1), (0, 2), (1, 3), (0, 3)), (needed(1), [3, 1]), (look(), [1, 0, 3]))

    def test_more_right_than_asked_for_is_enough(self):
        # 2 are surely right, so 1 is, too.
        self.check_last(
            start(4, 2, 3, (0, 1), (2, 3)), (worst(), [2, 0, 1, 2]), (needed(1), [1, 1]), (look(), [1, 2, 3]))

    def test_again_there_is_none_to_give_back(self):
        self.check_last(
            start(4, 2, 2, (0, 1), (0, 2), (2, 3), (1, 3)),
            (needed(1), [2, 2]), (needed(1), [0, 2]), (look(), [2, 2, 3, 1, 3]))

    def test_all_calls_behind_it(self):
        self.check_last(
            start(4, 2, 2, (0, 1), (0, 2), (2, 3), (1, 3)),
            (needed(1), [2, 2]), (look(), [2, 2, 3, 1, 3]), (worst(), [1, 0, 1]),
            (matches(0, 3), [1, 1, 1]), (matches(2, 3), [2, 2, 1]), (covers(2), [2, 6, 1, 3]),
            (buy(2, 3), [-4]), (buy(0, 1), [2]), (drop(0), [2]), (look(), [2, 1, 3, 0, 1]),
            (drop(0), [1]), (drop(1), [-2]), (worst(), [0, 2, 3]), (needed(1), [-6]),
            (next_ticket(1), [1, 0, 2]), (look(), [1, 0, 1]))

    def test_room_for_more_behind_it(self):
        # Two rows of four out of seven share a number, so each ticket alone would do.
        tickets = EVERYTHING[7, 4][:30]
        told = ask(*start(7, 4, 4, *tickets), buy(3, 4, 5, 6), needed(1), look(), buy(3, 4, 5, 6), look())
        self.assertEqual(told[31:], [[-5], [29, 1], [1, *tickets[29]], [1], [2, *tickets[29], 3, 4, 5, 6]])

    def test_m_are_not_surely_right(self):
        self.check_refused(start(6, 2, 1, (0, 1), (2, 3)), needed(1), -6)
        self.check_refused(start(6, 2, 1, (0, 1), (2, 3), (4, 5)), needed(2), -6)
        self.check_refused(start(4, 2, 2, (0, 1), (0, 2), (2, 3), (1, 3)), needed(2), -6)
        self.check_refused(start(5, 3, 2, *EVERYTHING[5, 3]), needed(3), -6)

    def test_no_tickets(self):
        for n, k, t in ((4, 2, 3), (6, 6, 6), (2, 1, 2)):
            for m in range(1, k + 1):
                self.check_last([begin(n, k, t)], (needed(m), [-6]), (look(), [0]))


class Pays(CoveringCase):
    def test_no_tickets(self):
        self.check(
            (begin(4, 2, 2), [0, 6, 6]), (pays(1, 2, 3), [0, 1, 0]), (pays(0, 0, 0), [0, 1, 0]),
            (begin(10, 6, 6), [0, 210, 210]), (pays(1, 2, 3, 4, 5, 6, 99999), [0, 1, 0]))

    def test_one_ticket(self):
        # One draw with 2 right, four with 1, one with none.
        self.check_last(
            start(4, 2, 2, (0, 1)),
            (pays(0, 1, 10), [7, 3, 10]), (pays(0, 0, 6), [1, 1, 6]), (pays(5, 0, 0), [5, 6, 5]),
            (pays(0, 3, 0), [2, 1, 3]), (pays(7, 7, 7), [7, 1, 7]), (pays(0, 0, 0), [0, 1, 0]),
            (pays(1, 2, 4), [13, 6, 4]), (pays(9, 1, 2), [5, 2, 9]))

    def test_several_tickets_are_paid_together(self):
        # The draws 0 1 and 2 3 have 2 right and none; the four others 1 right on each.
        self.check_last(
            start(4, 2, 2, (0, 1), (2, 3)),
            (pays(0, 1, 10), [14, 3, 10]), (pays(0, 7, 10), [38, 3, 14]), (pays(3, 7, 10), [41, 3, 14]),
            (pays(3, 0, 10), [13, 3, 13]), (pays(0, 0, 3), [1, 1, 3]), (pays(1, 1, 1), [2, 1, 2]))

    def test_the_most_is_for_one_draw(self):
        # No draw of two has 2 right on both tickets; of three, 0 1 2 has.
        self.check_last(start(4, 2, 2, (0, 1), (0, 2)), (pays(0, 0, 5), [5, 3, 5]), (pays(0, 1, 5), [3, 1, 6]))
        self.check_last(start(4, 2, 3, (0, 1), (0, 2)), (pays(0, 0, 5), [5, 1, 10]))

    def test_more_in_a_ticket_than_in_a_draw(self):
        # Prizes for more than t right are told, but never paid.
        self.check_last(
            start(4, 3, 1, (0, 1, 2)),
            (pays(0, 4, 0, 0), [3, 1, 4]), (pays(1, 4, 99999, 99999), [13, 4, 4]),
            (pays(0, 0, 5, 5), [0, 1, 0]), (pays(1, 4), [-1]))

    def test_the_largest_prizes(self):
        self.check_last(
            start(4, 2, 2, (0, 1)),
            (pays(0, 0, 99999), [33333, 2, 99999]), (pays(99999, 99999, 99999), [99999, 1, 99999]))
        tickets = EVERYTHING[8, 3][:30]
        told = ask(*start(8, 3, 3, *tickets), pays(*[99999] * 4))
        self.assertEqual(told[-1], [2999970, 1, 2999970])

    def test_one_above_the_largest(self):
        for before in (start(4, 2, 2), start(4, 2, 2, (0, 1))):
            for prizes in ((100000, 0, 0), (0, 100000, 0), (0, 0, 100000), (100000, 100000, 100000)):
                self.check_refused(before, pays(*prizes), -1)
        # One that would never be paid is refused, too.
        self.check_refused(start(4, 3, 1, (0, 1, 2)), pays(0, 0, 0, 100000), -1)

    def test_how_many_prizes(self):
        for n, k, t in ((4, 1, 2), (4, 2, 2), (5, 3, 2), (6, 6, 6), (10, 6, 1)):
            for count in range(21):
                told = ask(begin(n, k, t), pays(*[1] * count))[1]
                self.assertEqual(told, [0, 1, 0] if count == k + 1 else [-1], (n, k, t, count))
        before = start(5, 3, 2, (0, 1, 2), (2, 3, 4))
        for count in (0, 1, 3, 5, 6, 20):
            self.check_refused(before, pays(*[1] * count), -1)

    def test_any_order_of_prizes_and_the_same_ones(self):
        self.check_last(
            start(5, 2, 3, (3, 4)),
            # 1, 6 and 3 draws with none, 1 and 2 right.
            (pays(30, 20, 10), [18, 1, 30]), (pays(10, 20, 30), [22, 1, 30]), (pays(1, 0, 0), [1, 10, 1]),
            (pays(0, 1, 0), [3, 5, 1]), (pays(0, 0, 1), [3, 10, 1]))

    def test_nothing_changes(self):
        self.check_last(
            start(4, 2, 2, (2, 3), (0, 1)),
            (pays(0, 1, 10), [14, 3, 10]), (look(), [2, 2, 3, 0, 1]), (pays(0, 1, 10), [14, 3, 10]))


class Least(CoveringCase):
    def test_rounded_up(self):
        # 9 of 10 draws, and 3 of 10.
        self.check((begin(5, 2, 3), [0, 10, 10]), (least(1), [2]), (least(2), [4]))
        self.check((begin(5, 3, 2), [0, 10, 10]), (least(1), [2]), (least(2), [4]))
        # 5 of 6 draws, and 1 of 6.
        self.check((begin(4, 2, 2), [0, 6, 6]), (least(1), [2]), (least(2), [6]))

    def test_even(self):
        # All 4 draws, and 2 of 4.
        self.check((begin(4, 2, 3), [0, 6, 4]), (least(1), [1]), (least(2), [2]))
        self.check((begin(6, 2, 1), [0, 15, 6]), (least(1), [3]))
        self.check((begin(10, 6, 6), [0, 210, 210]), (least(1), [1]), (least(2), [1]), (least(6), [210]))

    def test_by_this_reckoning_alone(self):
        # One ticket covers 9 of 15 draws, but two leave at least two numbers out, and so a draw.
        self.check((begin(6, 2, 2), [0, 15, 15]), (least(1), [2]), (fewest(1), [3, 0, 1, 0, 2, 3, 4]))

    def test_m_above_t(self):
        for before in (start(5, 3, 2), start(5, 3, 2, (0, 1, 2))):
            self.check_refused(before, least(3), -6)
        self.check((begin(6, 6, 1), [0, 1, 6]), (least(1), [1]), (least(2), [-6]), (least(6), [-6]), (least(7), [-1]))

    def test_it_does_not_matter_what_was_bought(self):
        for tickets in ([], [(0, 1)], [(3, 4), (1, 2)], EVERYTHING[5, 2]):
            before = start(5, 2, 3, *tickets)
            self.check_last(
                before, (least(1), [2]), (least(2), [4]), (look(), [len(tickets), *itertools.chain(*tickets)]))


if __name__ == "__main__":
    unittest.main()
