"""The calls that only look. Each gives back its answer."""

from schoolbus.places import how_far
from schoolbus.refusals import CANNOT_BE, NO_SUCH
from schoolbus.walking import pupils_at, pupils_there, stop_of


def counted(numbers):
    return [len(numbers)] + numbers


def where(bus, p):
    if p >= len(bus.pupils):
        return [NO_SUCH]
    s = stop_of(bus, p)
    if s is None:
        return [CANNOT_BE]
    return [s, how_far(bus.stops[s].place, bus.pupils[p].home)]


def at(bus, s):
    if s >= len(bus.stops):
        return [NO_SUCH]
    return counted(pupils_at(bus, s))


def unreached(bus):
    return counted([p for p in pupils_there(bus) if stop_of(bus, p) is None])


def is_unserved(bus, p):
    s = stop_of(bus, p)
    return s is not None and s not in bus.order


def unserved(bus):
    return counted([p for p in pupils_there(bus) if is_unserved(bus, p)])
