"""The calls that look at stops and pupils, at the order, and at all. Each gives back its answer."""

from schoolbus.orders import way
from schoolbus.places import how_far, is_place
from schoolbus.refusals import CANNOT_BE, NO_SUCH, OUT_OF_RANGE
from schoolbus.telling import counted
from schoolbus.trips import morning_length, riders, served_stops
from schoolbus.walking import is_within_walk, open_stops, pupils_at, pupils_there, pupils_without_stop, stop_of


def walk_of(bus, p):
    return how_far(bus.stops[stop_of(bus, p)].place, bus.pupils[p].home)


def where(bus, p):
    if p >= len(bus.pupils):
        return [NO_SUCH]
    s = stop_of(bus, p)
    if s is None:
        return [CANNOT_BE]
    return [s, walk_of(bus, p)]


def at(bus, s):
    if s >= len(bus.stops):
        return [NO_SUCH]
    return counted(pupils_at(bus, s))


def unreached(bus):
    return counted(pupils_without_stop(bus))


def is_unserved(bus, p):
    s = stop_of(bus, p)
    return s is not None and s not in bus.order


def unserved(bus):
    return counted([p for p in pupils_there(bus) if is_unserved(bus, p)])


def walks(bus):
    far = [walk_of(bus, p) for p in pupils_there(bus) if stop_of(bus, p) is not None]
    return [len(far), sum(far), max(far, default=0)]


def reach(bus, x, y):
    if not is_place(x, y):
        return [OUT_OF_RANGE]
    near = [p for p in pupils_there(bus) if is_within_walk(bus, (x, y), bus.pupils[p].home)]
    return [len(near), len([p for p in near if stop_of(bus, p) is None])]


def order_now(bus):
    return counted(bus.order) + [way(bus, served_stops(bus))]


def state(bus):
    return [
        0, len(bus.stops), len(open_stops(bus)), len(bus.pupils), len(pupils_there(bus)), len(riders(bus)),
        morning_length(bus),
    ]
