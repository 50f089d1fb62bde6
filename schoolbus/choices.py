"""The calls that look for better: the best order, the fewest stops that do, and those that could be closed."""

from schoolbus.orders import best_order, refusal_to_order, way
from schoolbus.refusals import CANNOT_BE
from schoolbus.telling import counted
from schoolbus.walking import (
    is_within_walk, open_stops, pupils_there, pupils_without_stop, stops_near, stops_with_pupils,
)


# Some stops, and who is left: those there for whom none of these is within a walk.
class Choice:
    def __init__(self, stops, left):
        self.stops = stops
        self.left = left


def best(bus):
    needed = stops_with_pupils(bus)
    refusal = refusal_to_order(needed)
    if refusal is not None:
        return [refusal]
    order = best_order(bus, needed)
    return [way(bus, order)] + order


def with_stop(bus, choice, s):
    place = bus.stops[s].place
    left = [p for p in choice.left if not is_within_walk(bus, place, bus.pupils[p].home)]
    return Choice(choice.stops + [s], left)


def one_stop_larger(bus, choices):
    larger = []
    for choice in choices:
        for s in open_stops(bus):
            # Only greater stops are put behind, so that each choice is made once, rising, the lesser ones first.
            if len(choice.stops) == 0 or s > choice.stops[-1]:
                larger.append(with_stop(bus, choice, s))
    return larger


def those_that_do(choices):
    return [choice.stops for choice in choices if len(choice.left) == 0]


def fewest_stops(bus):
    choices = [Choice([], pupils_there(bus))]
    while len(those_that_do(choices)) == 0:
        choices = one_stop_larger(bus, choices)
    return those_that_do(choices)[0]


def fewest(bus):
    # Ahead of the search, which ends only where all open stops do.
    if len(pupils_without_stop(bus)) > 0:
        return [CANNOT_BE]
    return counted(fewest_stops(bus))


def spare(bus):
    near = [stops_near(bus, bus.pupils[p].home) for p in pupils_there(bus)]
    # A stop is needed by whoever has no other one near; who has none at all needs none.
    return counted([s for s in open_stops(bus) if [s] not in near])
