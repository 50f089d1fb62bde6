"""Which stop a pupil walks to, and who is at a stop."""

from schoolbus.places import how_far


def is_within_walk(bus, one, other):
    return how_far(one, other) <= bus.walk


def open_stops(bus):
    return [s for s in range(len(bus.stops)) if bus.stops[s].is_open]


def stops_near(bus, home):
    return [s for s in open_stops(bus) if is_within_walk(bus, bus.stops[s].place, home)]


def nearest_stop(bus, home):
    # min keeps the first of alike ones, and stops_near is rising: so the lesser stop is taken.
    return min(stops_near(bus, home), key=lambda s: how_far(bus.stops[s].place, home), default=None)


def stop_of(bus, p):
    return nearest_stop(bus, bus.pupils[p].home)


def pupils_there(bus):
    return [p for p in range(len(bus.pupils)) if bus.pupils[p].is_there]


def pupils_at(bus, s):
    return [p for p in pupils_there(bus) if stop_of(bus, p) == s]


def pupils_without_stop(bus):
    return [p for p in pupils_there(bus) if stop_of(bus, p) is None]


def stops_with_pupils(bus):
    return [s for s in range(len(bus.stops)) if len(pupils_at(bus, s)) > 0]
