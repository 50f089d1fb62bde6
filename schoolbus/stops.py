"""The calls on one bus, handed in and answered as lists of whole numbers."""

from schoolbus.bus import Line
from schoolbus.changes import (
    add_pupil, add_stop, begin, bring_back, close_stop, move_pupil, open_stop, rule, send_away, set_route, take_best,
)
from schoolbus.choices import best, fewest, spare
from schoolbus.looks import at, order_now, reach, state, unreached, unserved, walks, where
from schoolbus.refusals import NOT_BEGUN
from schoolbus.rides import evening, full, latest, loads, longest, morning, ride, toolong

BEGIN = 0
ROUTE = 9
LAST_CHANGE = 10
FIRST_OF_RIDES = 15
LAST_OF_RIDES = 22

# How many whole numbers each call has, by its number; of route it's the count of its row.
HOW_MANY = (
    6, 3, 2, 1, 1, 2, 3, 1, 1, 1, 0, 1, 1, 0, 0,
    1, 1, 1, 1, 0, 0, 0, 0, 0, 0, 0, 0, 2, 0, 0,
)


def change(bus, number, given):
    if number == 1:
        return rule(bus, given[0], given[1], given[2])
    if number == 2:
        return add_stop(bus, given[0], given[1])
    if number == 3:
        return open_stop(bus, given[0])
    if number == 4:
        return close_stop(bus, given[0])
    if number == 5:
        return add_pupil(bus, given[0], given[1])
    if number == 6:
        return move_pupil(bus, given[0], given[1], given[2])
    if number == 7:
        return send_away(bus, given[0])
    if number == 8:
        return bring_back(bus, given[0])
    if number == ROUTE:
        # given[0] is only how many stops follow.
        return set_route(bus, given[1:])
    return take_best(bus)


def look_at_rides(bus, number, given):
    if number == 15:
        return morning(bus, given[0])
    if number == 16:
        return evening(bus, given[0])
    if number == 17:
        return latest(bus, given[0])
    if number == 18:
        return ride(bus, given[0])
    if number == 19:
        return longest(bus)
    if number == 20:
        return toolong(bus)
    if number == 21:
        return loads(bus)
    return full(bus)


def look(bus, number, given):
    if number == 11:
        return where(bus, given[0])
    if number == 12:
        return at(bus, given[0])
    if number == 13:
        return unreached(bus)
    if number == 14:
        return unserved(bus)
    if number == 23:
        return best(bus)
    if number == 24:
        return fewest(bus)
    if number == 25:
        return spare(bus)
    if number == 26:
        return walks(bus)
    if number == 27:
        return reach(bus, given[0], given[1])
    if number == 28:
        return order_now(bus)
    return state(bus)


def answer(line, number, given):
    if number == BEGIN:
        return begin(line, (given[0], given[1]), (given[2], given[3]), given[4], given[5])
    if line.bus is None:
        return [NOT_BEGUN]
    if number <= LAST_CHANGE:
        return change(line.bus, number, given)
    if FIRST_OF_RIDES <= number <= LAST_OF_RIDES:
        return look_at_rides(line.bus, number, given)
    return look(line.bus, number, given)


def end_of_call(calls, start):
    end = start + 1 + HOW_MANY[calls[start]]
    if calls[start] == ROUTE:
        return end + calls[start + 1]
    return end


def answers(calls):
    line = Line()
    told = []
    start = 0
    while start < len(calls):
        end = end_of_call(calls, start)
        numbers = answer(line, calls[start], calls[start + 1:end])
        told.append(len(numbers))
        told.extend(numbers)
        start = end
    return told
