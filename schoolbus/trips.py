"""The bus on its way: which stops it goes to, when it comes there, and who is on it."""

from schoolbus.places import how_far
from schoolbus.walking import pupils_at, pupils_there, stop_of


class Trip:
    def __init__(self, stops, times, end):
        self.stops = stops
        self.times = times
        self.end = end


def served_stops(bus):
    return [s for s in bus.order if len(pupils_at(bus, s)) > 0]


def riders(bus):
    return [p for p in pupils_there(bus) if stop_of(bus, p) in bus.order]


def wait_at(bus, s):
    return bus.halt + bus.each * len(pupils_at(bus, s))


def drive(bus, start, stops, goal, t):
    times = []
    here = start
    now = t
    for s in stops:
        now = now + how_far(here, bus.stops[s].place)
        # Told is when the bus comes, ahead of its wait there.
        times.append(now)
        now = now + wait_at(bus, s)
        here = bus.stops[s].place
    return Trip(stops, times, now + how_far(here, goal))


def morning_trip(bus, t):
    return drive(bus, bus.garage, served_stops(bus), bus.school, t)


def evening_trip(bus, t):
    return drive(bus, bus.school, list(reversed(served_stops(bus))), bus.garage, t)


def morning_length(bus):
    return morning_trip(bus, 0).end


def ride_from(trip, s):
    return trip.end - trip.times[trip.stops.index(s)]


def loads_behind(bus, stops):
    behind = []
    load = 0
    for s in stops:
        load = load + len(pupils_at(bus, s))
        behind.append(load)
    return behind
