"""The interface: a line of calls is read and answered, one call behind another."""

from wheeldraw.tickets import Wheel

BEGIN = 0
BUY = 1
DROP = 2
LOOK = 3
MATCHES = 4
WORST = 5
COVERS = 6
NEXT = 7
FEWEST = 8
NEEDED = 9
PAYS = 10

# The calls to which a row is handed over: buy, matches and pays.
ROW_CALLS = (1, 4, 10)

# How many whole numbers each call has, by its number; those with a row have none.
PLAIN_COUNTS = (3, 0, 1, 0, 0, 0, 1, 1, 1, 1, 0, 1)


def answers(calls):
    """The answers to all calls of the line, each behind how many numbers it has."""
    wheel = Wheel()
    told = []
    at = 0
    while at < len(calls):
        start = start_of_given(calls, at)
        end = start + count_of_given(calls, at)
        numbers = answer_call(wheel, calls[at], calls[start:end])
        told.append(len(numbers))
        told.extend(numbers)
        at = end
    return told


def start_of_given(calls, at):
    """Where that stands which is handed over with the call at that spot."""
    return at + 2 if calls[at] in ROW_CALLS else at + 1


def count_of_given(calls, at):
    """How many numbers are handed over with the call at that spot."""
    return calls[at + 1] if calls[at] in ROW_CALLS else PLAIN_COUNTS[calls[at]]


def answer_call(wheel, call, given):
    """The numbers that one call answers; a refusal is its number alone."""
    if call == BEGIN:
        return wheel.begin(given[0], given[1], given[2])
    if not wheel.begun:
        return [-9]
    if call == BUY:
        return wheel.buy(given)
    if call == DROP:
        return wheel.drop(given[0])
    if call == LOOK:
        return wheel.look()
    if call == MATCHES:
        return wheel.matches(given)
    if call == WORST:
        return wheel.worst()
    if call == COVERS:
        return wheel.covers(given[0])
    if call == NEXT:
        return wheel.next_ticket(given[0])
    if call == FEWEST:
        return wheel.fewest(given[0])
    if call == NEEDED:
        return wheel.needed(given[0])
    if call == PAYS:
        return wheel.pays(given)
    # Least, 11, is the one call that is left.
    return wheel.least(given[0])
