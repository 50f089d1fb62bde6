"""The calls that look at the bus on its way: its times, how long the rides are, and its seats."""

from schoolbus.refusals import CANNOT_BE, NO_SUCH, NONE_AT_ALL, OUT_OF_RANGE
from schoolbus.telling import counted
from schoolbus.trips import evening_trip, loads_behind, morning_length, morning_trip, ride_from, riders, served_stops
from schoolbus.walking import stop_of

MOST_TIME = 100000


def told_trip(trip):
    numbers = [len(trip.stops)]
    for s, time in zip(trip.stops, trip.times):
        numbers.append(s)
        numbers.append(time)
    return numbers + [trip.end]


def morning(bus, t):
    if t > MOST_TIME:
        return [OUT_OF_RANGE]
    return told_trip(morning_trip(bus, t))


def evening(bus, t):
    if t > MOST_TIME:
        return [OUT_OF_RANGE]
    return told_trip(evening_trip(bus, t))


def latest(bus, t):
    if t > MOST_TIME:
        return [OUT_OF_RANGE]
    start = t - morning_length(bus)
    if start < 0:
        return [CANNOT_BE]
    return [start]


def ride(bus, p):
    if p >= len(bus.pupils):
        return [NO_SUCH]
    if p not in riders(bus):
        return [CANNOT_BE]
    return [ride_from(morning_trip(bus, 0), stop_of(bus, p))]


def longest(bus):
    riding = riders(bus)
    if len(riding) == 0:
        return [NONE_AT_ALL]
    trip = morning_trip(bus, 0)
    # max keeps the first of alike ones, and riding is rising: so the lesser pupil is told.
    who = max(riding, key=lambda p: ride_from(trip, stop_of(bus, p)))
    return [who, ride_from(trip, stop_of(bus, who))]


def toolong(bus):
    trip = morning_trip(bus, 0)
    return counted([p for p in riders(bus) if ride_from(trip, stop_of(bus, p)) > bus.limit])


def loads(bus):
    return counted(loads_behind(bus, served_stops(bus)))


def full(bus):
    stops = served_stops(bus)
    for s, load in zip(stops, loads_behind(bus, stops)):
        if load > bus.seats:
            return [s, load - bus.seats]
    return [NONE_AT_ALL]
