"""Puts calls into a line and takes the answers apart, for all tests."""

import unittest

from wheeldraw.wheel import answers

# More than this is not handed in.
MOST_CALLS = 40
MOST_NUMBERS = 1000


def begin(n, k, t):
    return [0, n, k, t]


def buy(*ticket):
    return [1, len(ticket), *ticket]


def drop(place):
    return [2, place]


def look():
    return [3]


def matches(*draw):
    return [4, len(draw), *draw]


def worst():
    return [5]


def covers(m):
    return [6, m]


def next_ticket(m):
    return [7, m]


def fewest(m):
    return [8, m]


def needed(m):
    return [9, m]


def pays(*prizes):
    return [10, len(prizes), *prizes]


def least(m):
    return [11, m]


def buy_all(tickets):
    return [buy(*ticket) for ticket in tickets]


def split(told):
    """The answers, a list for each call."""
    parts = []
    at = 0
    while at < len(told):
        assert told[at] >= 0, told
        end = at + 1 + told[at]
        parts.append(told[at + 1:end])
        at = end
    return parts


def ask(*calls):
    """The answers to these calls as one line, a list for each call."""
    line = [number for call in calls for number in call]
    assert len(calls) <= MOST_CALLS and len(line) <= MOST_NUMBERS, line
    told = answers(line)
    parts = split(told)
    assert sum(len(part) + 1 for part in parts) == len(told), told
    return parts


class Kept(list):
    """A list that can't be changed, for a while either."""

    def refuse(self, *given):
        raise AssertionError("the list that is handed in is changed")

    append = extend = insert = pop = remove = clear = refuse
    sort = reverse = __setitem__ = __delitem__ = __iadd__ = __imul__ = refuse


class Case(unittest.TestCase):
    def check(self, *pairs):
        """Each pair is a call and its answer; all calls stand in one line."""
        told = ask(*[call for call, answer in pairs])
        self.assertEqual(told, [answer for call, answer in pairs])

    def check_refused(self, before, call, refusal):
        """The call is refused after these, and all that can be seen stays as it was."""
        seen = [
            look(), worst(), matches(0, 1, 2), matches(0, 1), buy(0, 1), drop(0), look(),
            covers(1), next_ticket(1), least(1), pays(1, 10, 100), pays(1, 10, 100, 1000),
            needed(1), look()]
        seen = seen[:MOST_CALLS - 1 - len(before)]
        plain = ask(*before, *seen)
        told = ask(*before, call, *seen)
        self.assertEqual(told[len(before)], [refusal], (before, call))
        self.assertEqual(told[:len(before)] + told[len(before) + 1:], plain, (before, call))
