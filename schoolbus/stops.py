"""The calls on one bus, handed in and answered as lists of whole numbers."""

from schoolbus.bus import Line
from schoolbus.changes import (
    add_pupil, add_stop, begin, bring_back, close_stop, move_pupil, open_stop, rule, send_away, set_route, take_best,
)
from schoolbus.looks import at, unreached, unserved, where
from schoolbus.refusals import NOT_BEGUN

BEGIN = 0
ROUTE = 9
LAST_CHANGE = 10

# How many whole numbers each call has, by its number; of route it's the count of its row.
HOW_MANY = (
    6, 3, 2, 1, 1, 2, 3, 1, 1, 1, 0, 1, 1, 0, 0,
    1, 1, 1, 1, 0, 0, 0, 0, 0, 0, 0, 0, 2, 0, 0,
)


class NotBuilt(Exception):
    pass


def change(bus, number, given):
    if number == 1:
        return rule(bus, given[0], given[1], given[2])
    if number == 2:
        return add_stop(bus, given[0], given[1])
    if number == 3:
        return open_stop(bus, given[0])
    if number == 4:
        return close_stop(bus, given[0])
    if number == 5:
        return add_pupil(bus, given[0], given[1])
    if number == 6:
        return move_pupil(bus, given[0], given[1], given[2])
    if number == 7:
        return send_away(bus, given[0])
    if number == 8:
        return bring_back(bus, given[0])
    if number == ROUTE:
        # given[0] is only how many stops follow.
        return set_route(bus, given[1:])
    return take_best(bus)


def look(bus, number, given):
    if number == 11:
        return where(bus, given[0])
    if number == 12:
        return at(bus, given[0])
    if number == 13:
        return unreached(bus)
    if number == 14:
        return unserved(bus)
    raise NotBuilt(f"there is no call {number} yet")


def answer(line, number, given):
    if number == BEGIN:
        return begin(line, (given[0], given[1]), (given[2], given[3]), given[4], given[5])
    if line.bus is None:
        return [NOT_BEGUN]
    if number <= LAST_CHANGE:
        return change(line.bus, number, given)
    return look(line.bus, number, given)


def end_of_call(calls, start):
    end = start + 1 + HOW_MANY[calls[start]]
    if calls[start] == ROUTE:
        return end + calls[start + 1]
    return end


def answers(calls):
    line = Line()
    told = []
    start = 0
    while start < len(calls):
        end = end_of_call(calls, start)
        numbers = answer(line, calls[start], calls[start + 1:end])
        told.append(len(numbers))
        told.extend(numbers)
        start = end
    return told
