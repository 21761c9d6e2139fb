"""Promises 1 to 6, each asked through wheeldraw.wheel.answers."""

import doctest
import itertools
import math
import pathlib
import unittest

from tests.asking import Case, Kept, ask, begin, buy, buy_all, drop, look, matches, worst
from wheeldraw.wheel import answers

WITHOUT_WHEEL = {
    "buy": [1, 2, 0, 1],
    "buy, empty ticket": [1, 0],
    "drop": [2, 0],
    "look": [3],
    "matches": [4, 2, 0, 1],
    "matches, empty draw": [4, 0],
    "worst": [5],
    "covers": [6, 1],
    "next": [7, 1],
    "fewest": [8, 1],
    "needed": [9, 1],
    "pays": [10, 3, 0, 1, 2],
    "pays, no prizes": [10, 0],
    "least": [11, 1],
}


def worst_by_hand(n, t, tickets):
    """What worst is to answer, reckoned by sets."""
    found = None
    for draw in itertools.combinations(range(n), t):
        best = max([len(set(draw) & set(ticket)) for ticket in tickets], default=0)
        if found is None or best < found[0]:
            found = [best, *draw]
    return found


class Form(Case):
    def test_answers_stand_behind_their_counts(self):
        calls = [0, 5, 2, 3, 1, 2, 0, 1, 1, 2, 3, 4, 3, 4, 3, 0, 1, 3, 5, 2, 7, 2, 0]
        told = answers(calls)
        self.assertEqual(told, [
            3, 0, 10, 10, 1, 0, 1, 1, 5, 2, 0, 1, 3, 4, 3, 2, 2, 1, 4, 1, 0, 2, 3, 1, -2, 1, 1])
        self.assertIs(type(told), list)
        for number in told:
            self.assertIs(type(number), int)

    def test_what_is_handed_in_is_not_changed(self):
        calls = [0, 4, 2, 2, 1, 2, 0, 1, 1, 2, 1, 0, 1, 0, 3, 4, 2, 0, 1, 5, 2, 0, 2, 9, 0, 1, 1, 1]
        kept = Kept(calls)
        told = answers(kept)
        self.assertEqual(list(kept), calls)
        self.assertEqual(told, answers(list(calls)))

    def test_tickets_that_are_told_are_not_tied_to_one_another(self):
        self.check(
            (begin(4, 2, 2), [0, 6, 6]),
            (buy(0, 1), [0]),
            (look(), [1, 0, 1]),
            (worst(), [0, 2, 3]),
            (worst(), [0, 2, 3]),
            (matches(2, 3), [0, 0]),
            (look(), [1, 0, 1]))

    def test_one_time_knows_nothing_of_another(self):
        first = [*begin(5, 2, 2), *buy(0, 1)]
        told = answers(first)
        self.assertEqual(answers([*look()]), [1, -9])
        self.assertEqual(answers(first), told)
        self.assertEqual(answers([*buy(0, 1), *begin(5, 2, 2), *look()]), [1, -9, 3, 0, 10, 10, 1, 0])
        self.assertEqual(answers(first), told)

    def test_a_line_of_forty_calls(self):
        tickets = list(itertools.combinations(range(10), 6))[:30]
        calls = [begin(10, 6, 6), *buy_all(tickets), *[look()] * 9]
        told = ask(*calls)
        self.assertEqual(len(told), 40)
        self.assertEqual(told[1:31], [[place] for place in range(30)])
        flat = [30, *[number for ticket in tickets for number in ticket]]
        self.assertEqual(told[31:], [flat] * 9)

    def test_among_calls_that_change_nothing(self):
        # None of the calls between changes anything, whatever it answers.
        told = ask(
            begin(4, 2, 2), [6, 0], buy(0, 1), [7, 1], buy(2, 3), [8, 1], look(), [9, 0],
            matches(0, 2), [10, 3, 0, 1, 2], worst(), [10, 0], drop(0), [11, 1], look())
        self.assertEqual(told[::2], [
            [0, 6, 6], [0], [1], [2, 0, 1, 2, 3], [1, 1, 1], [1, 0, 2], [1], [1, 2, 3]])

    def test_the_example_in_the_readme(self):
        path = pathlib.Path(__file__).resolve().parent.parent / "README.md"
        found = doctest.testfile(str(path), module_relative=False)
        self.assertEqual((found.failed, found.attempted > 0), (0, True))


class WithoutWheel(Case):
    def test_each_call_but_begin_answers_minus_nine(self):
        for name, call in WITHOUT_WHEEL.items():
            with self.subTest(name):
                self.assertEqual(ask(call), [[-9]])

    def test_all_of_them_in_one_line_and_then_a_wheel(self):
        calls = list(WITHOUT_WHEEL.values())
        told = ask(*calls, begin(4, 2, 2), look())
        self.assertEqual(told, [[-9]] * len(calls) + [[0, 6, 6], [0]])

    def test_it_comes_ahead_of_what_else_is_wrong(self):
        for call in (buy(1, 0), buy(20), drop(50), matches(3, 3), [6, 20], [7, 0], [10, 1, 100000]):
            self.assertEqual(ask(call), [[-9]])

    def test_a_refused_begin_makes_no_wheel(self):
        for call in WITHOUT_WHEEL.values():
            self.assertEqual(ask(begin(1, 1, 1), call), [[-1], [-9]])


class Begin(Case):
    def test_all_sizes(self):
        for n, k, t in itertools.product(range(21), repeat=3):
            good = 2 <= n <= 10 and 1 <= k <= min(6, n) and 1 <= t <= min(6, n)
            wanted = [0, math.comb(n, k), math.comb(n, t)] if good else [-1]
            self.assertEqual(ask(begin(n, k, t)), [wanted], (n, k, t))

    def test_edges(self):
        self.check(
            (begin(2, 1, 1), [0, 2, 2]),
            (begin(2, 2, 1), [0, 1, 2]),
            (begin(2, 1, 2), [0, 2, 1]),
            (begin(2, 2, 2), [0, 1, 1]),
            (begin(10, 6, 6), [0, 210, 210]),
            (begin(10, 1, 5), [0, 10, 252]),
            (begin(6, 6, 6), [0, 1, 1]))

    def test_wrong_sizes(self):
        self.check(
            (begin(0, 0, 0), [-1]), (begin(1, 1, 1), [-1]), (begin(11, 1, 1), [-1]),
            (begin(20, 6, 6), [-1]), (begin(5, 0, 1), [-1]), (begin(5, 1, 0), [-1]),
            (begin(10, 7, 1), [-1]), (begin(10, 1, 7), [-1]),
            (begin(2, 3, 1), [-1]), (begin(2, 1, 3), [-1]), (begin(5, 6, 1), [-1]), (begin(5, 1, 6), [-1]))

    def test_again_instead_of_what_there_was(self):
        self.check(
            (begin(5, 2, 3), [0, 10, 10]),
            (buy(0, 1), [0]),
            (buy(3, 4), [1]),
            (begin(6, 3, 2), [0, 20, 15]),
            (look(), [0]),
            (worst(), [0, 0, 1]),
            (buy(0, 1), [-1]),
            (buy(3, 4, 5), [0]),
            (matches(0, 1, 2), [-1]),
            (matches(4, 5), [2, 2]),
            (look(), [1, 3, 4, 5]))

    def test_again_with_the_same_numbers(self):
        self.check(
            (begin(4, 2, 2), [0, 6, 6]),
            (buy(0, 1), [0]),
            (begin(4, 2, 2), [0, 6, 6]),
            (look(), [0]),
            (drop(0), [-2]),
            (buy(0, 1), [0]))

    def test_a_refusal_changes_nothing(self):
        before = [begin(5, 2, 3), buy(0, 2), buy(1, 4)]
        for sizes in ((1, 1, 1), (11, 3, 2), (4, 5, 1), (4, 1, 5), (4, 0, 2), (4, 2, 0), (10, 7, 2), (10, 2, 7)):
            self.check_refused(before, begin(*sizes), -1)


class Buy(Case):
    def test_places_count_from_nought(self):
        self.check(
            (begin(6, 3, 2), [0, 20, 15]),
            (buy(3, 4, 5), [0]),
            (buy(0, 1, 2), [1]),
            (buy(0, 1, 5), [2]),
            (look(), [3, 3, 4, 5, 0, 1, 2, 0, 1, 5]))

    def test_one_number_and_all_numbers(self):
        self.check(
            (begin(2, 1, 2), [0, 2, 1]), (buy(1), [0]), (buy(0), [1]), (buy(2), [-1]),
            (look(), [2, 1, 0]),
            (begin(2, 2, 1), [0, 1, 2]), (buy(0, 1), [0]), (buy(0, 1), [-4]),
            (begin(6, 6, 1), [0, 1, 6]), (buy(0, 1, 2, 3, 4, 5), [0]), (buy(0, 1, 2, 3, 4), [-1]),
            (begin(10, 6, 1), [0, 210, 10]), (buy(4, 5, 6, 7, 8, 9), [0]), (buy(5, 6, 7, 8, 9, 10), [-1]))

    def test_every_row_of_three_numbers(self):
        good = set(itertools.combinations(range(5), 3))
        for ticket in itertools.product(range(7), repeat=3):
            wanted = [0] if ticket in good else [-1]
            self.assertEqual(ask(begin(5, 3, 2), buy(*ticket))[1], wanted, ticket)

    def test_what_is_no_ticket_changes_nothing(self):
        before = [begin(5, 2, 3), buy(0, 2), buy(1, 4)]
        wrong = [
            (), (1,), (1, 2, 3), (2, 1), (4, 0), (2, 2), (0, 0), (4, 5), (0, 5), (0, 20), (20, 20),
            tuple(range(20)), (0,) * 20]
        for ticket in wrong:
            self.check_refused(before, buy(*ticket), -1)

    def test_there_already(self):
        for before in ([buy(1, 3)], [buy(1, 3), buy(0, 1)], [buy(0, 1), buy(1, 3)]):
            self.check_refused([begin(5, 2, 3), *before], buy(1, 3), -4)

    def test_given_back_and_bought_again(self):
        self.check(
            (begin(5, 2, 3), [0, 10, 10]), (buy(1, 3), [0]), (buy(2, 3), [1]), (drop(0), [1]),
            (buy(1, 3), [1]), (look(), [2, 2, 3, 1, 3]), (buy(1, 3), [-4]))

    def test_thirty_tickets(self):
        tickets = list(itertools.combinations(range(8), 3))
        full = [begin(8, 3, 3), *buy_all(tickets[:30])]
        told = ask(*full, buy(*tickets[30]))
        self.assertEqual(told[1:], [[place] for place in range(30)] + [[-5]])
        self.check_refused(full, buy(*tickets[30]), -5)

    def test_twenty_nine_tickets_leave_room_for_one(self):
        tickets = list(itertools.combinations(range(8), 3))
        told = ask(begin(8, 3, 3), *buy_all(tickets[:30]), drop(7), buy(*tickets[30]), buy(*tickets[7]))
        self.assertEqual(told[31:], [[29], [29], [-5]])

    def test_which_refusal_comes_first(self):
        tickets = list(itertools.combinations(range(8), 3))
        full = [begin(8, 3, 3), *buy_all(tickets[:30])]
        self.check_refused(full, buy(*tickets[0]), -4)
        self.check_refused(full, buy(*tickets[29]), -4)
        self.check_refused(full, buy(), -1)
        self.check_refused(full, buy(2, 1, 0), -1)
        self.check_refused(full, buy(0, 1, 8), -1)
        self.check_refused(full, buy(0, 1, 2, 3), -1)


class Drop(Case):
    tickets = [(0, 1), (2, 3), (1, 4), (0, 4)]

    def test_each_place(self):
        for place in range(4):
            left = [ticket for ticket in self.tickets if ticket != self.tickets[place]]
            told = ask(begin(5, 2, 3), *buy_all(self.tickets), drop(place), look())
            self.assertEqual(told[5:], [[3], [3, *itertools.chain(*left)]])

    def test_those_behind_move_up(self):
        start = [(begin(5, 2, 3), [0, 10, 10])]
        start.extend((buy(*ticket), [place]) for place, ticket in enumerate(self.tickets))
        self.check(
            *start,
            (drop(1), [3]), (matches(0, 1, 4), [2, 2, 2, 2]), (matches(1, 2, 4), [2, 1, 2, 1]),
            (drop(1), [2]), (look(), [2, 0, 1, 0, 4]),
            (drop(0), [1]), (look(), [1, 0, 4]),
            (drop(0), [0]), (look(), [0]), (drop(0), [-2]), (worst(), [0, 0, 1, 2]))

    def test_no_ticket_at_that_place(self):
        start = [begin(5, 2, 3), *buy_all(self.tickets)]
        for place in (4, 5, 30, 50):
            self.check_refused(start, drop(place), -2)
        for place in (0, 1, 50):
            self.check_refused([begin(5, 2, 3)], drop(place), -2)

    def test_the_last_of_thirty(self):
        tickets = list(itertools.combinations(range(8), 3))[:30]
        told = ask(begin(8, 3, 3), *buy_all(tickets), drop(30), drop(29), drop(29), look())
        self.assertEqual(told[31:], [[-2], [29], [-2], [29, *itertools.chain(*tickets[:29])]])


class Look(Case):
    def test_no_tickets(self):
        self.check((begin(5, 2, 3), [0, 10, 10]), (look(), [0]), (look(), [0]))

    def test_in_their_places_order_not_in_order(self):
        self.check(
            (begin(7, 2, 3), [0, 21, 35]), (buy(5, 6), [0]), (buy(0, 3), [1]), (buy(0, 1), [2]),
            (look(), [3, 5, 6, 0, 3, 0, 1]), (look(), [3, 5, 6, 0, 3, 0, 1]))


class Matches(Case):
    def test_no_tickets(self):
        self.check((begin(5, 2, 3), [0, 10, 10]), (matches(0, 1, 2), [0]))

    def test_a_draw_longer_than_a_ticket_and_a_shorter_one(self):
        self.check(
            (begin(6, 2, 4), [0, 15, 15]), (buy(0, 1), [0]), (buy(4, 5), [1]), (buy(1, 5), [2]),
            (matches(0, 1, 2, 3), [2, 2, 0, 1]), (matches(2, 3, 4, 5), [2, 0, 2, 1]),
            (begin(6, 4, 2), [0, 15, 15]), (buy(0, 1, 2, 3), [0]), (buy(2, 3, 4, 5), [1]),
            (matches(4, 5), [2, 0, 2]), (matches(0, 5), [1, 1, 1]))

    def test_each_draw_and_each_ticket(self):
        for n, k, t in ((2, 1, 1), (2, 2, 2), (4, 2, 3), (6, 6, 2), (6, 1, 6), (7, 3, 1)):
            tickets = list(itertools.combinations(range(n), k))[::-2]
            for draw in itertools.combinations(range(n), t):
                right = [len(set(draw) & set(ticket)) for ticket in tickets]
                told = ask(begin(n, k, t), *buy_all(tickets), matches(*draw))
                self.assertEqual(told[-1], [max(right), *right], (n, k, t, draw))

    def test_what_is_no_draw_changes_nothing(self):
        before = [begin(5, 2, 3), buy(0, 2), buy(1, 4)]
        wrong = [
            (), (1,), (0, 1), (0, 1, 2, 3), (2, 1, 0), (0, 2, 1), (1, 0, 2), (0, 0, 1), (0, 1, 1),
            (3, 4, 5), (0, 1, 20), (0, 5, 6), tuple(range(20)), (0,) * 20]
        for draw in wrong:
            self.check_refused(before, matches(*draw), -1)
            self.check_refused([begin(5, 2, 3)], matches(*draw), -1)

    def test_it_needs_not_be_a_ticket_but_a_draw(self):
        self.check(
            (begin(5, 2, 3), [0, 10, 10]), (buy(0, 1, 2), [-1]), (matches(0, 1), [-1]),
            (buy(0, 1), [0]), (matches(0, 1, 2), [2, 2]))


class Worst(Case):
    def test_no_tickets(self):
        self.check(
            (begin(5, 2, 3), [0, 10, 10]), (worst(), [0, 0, 1, 2]),
            (begin(2, 1, 1), [0, 2, 2]), (worst(), [0, 0]),
            (begin(10, 6, 6), [0, 210, 210]), (worst(), [0, 0, 1, 2, 3, 4, 5]))

    def test_of_several_the_first(self):
        self.check(
            (begin(4, 2, 2), [0, 6, 6]), (buy(0, 1), [0]), (worst(), [0, 2, 3]),
            (buy(2, 3), [1]), (worst(), [1, 0, 2]),
            (buy(0, 2), [2]), (worst(), [1, 0, 3]),
            (buy(0, 3), [3]), (worst(), [1, 1, 2]),
            (buy(1, 2), [4]), (worst(), [1, 1, 3]),
            (buy(1, 3), [5]), (worst(), [2, 0, 1]))

    def test_one_draw_alone(self):
        self.check(
            (begin(3, 2, 3), [0, 3, 1]), (buy(1, 2), [0]), (worst(), [2, 0, 1, 2]),
            (begin(6, 6, 6), [0, 1, 1]), (buy(0, 1, 2, 3, 4, 5), [0]), (worst(), [6, 0, 1, 2, 3, 4, 5]))

    def test_on_many_wheels(self):
        for n in range(2, 11):
            for k, t in itertools.product(range(1, min(n, 6) + 1), repeat=2):
                everything = list(itertools.combinations(range(n), k))
                for step in (1, 7, 23):
                    tickets = everything[::-step][:12]
                    told = ask(begin(n, k, t), *buy_all(tickets), worst())
                    self.assertEqual(told[-1], worst_by_hand(n, t, tickets), (n, k, t, step))

    def test_nothing_changes(self):
        self.check(
            (begin(5, 2, 3), [0, 10, 10]), (buy(3, 4), [0]), (worst(), [0, 0, 1, 2]),
            (look(), [1, 3, 4]), (worst(), [0, 0, 1, 2]))


if __name__ == "__main__":
    unittest.main()
