"""The calls that change something: begin, rule, stops, pupils and the order. Each gives back its answer."""

from schoolbus.bus import Bus, LONGEST_RIDE, Pupil, Stop
from schoolbus.orders import best_order, refusal_to_order
from schoolbus.places import is_place
from schoolbus.refusals import ALREADY_SO, CLOSED, NO_SUCH, OUT_OF_RANGE, TOO_MANY
from schoolbus.walking import pupils_at, stops_with_pupils

MOST_WALK = 1000
MOST_SEATS = 60
MOST_WAIT = 100
MOST_STOPS = 10
MOST_PUPILS = 20


def begin(line, school, garage, walk, seats):
    if not is_place(school[0], school[1]) or not is_place(garage[0], garage[1]):
        return [OUT_OF_RANGE]
    if walk > MOST_WALK or seats < 1 or seats > MOST_SEATS:
        return [OUT_OF_RANGE]
    line.bus = Bus(school, garage, walk, seats)
    return [0]


def rule(bus, halt, each, limit):
    if halt > MOST_WAIT or each > MOST_WAIT or limit > LONGEST_RIDE:
        return [OUT_OF_RANGE]
    bus.halt = halt
    bus.each = each
    bus.limit = limit
    return [0]


def add_stop(bus, x, y):
    if not is_place(x, y):
        return [OUT_OF_RANGE]
    if len(bus.stops) == MOST_STOPS:
        return [TOO_MANY]
    bus.stops.append(Stop((x, y)))
    return [len(bus.stops) - 1]


def open_stop(bus, s):
    if s >= len(bus.stops):
        return [NO_SUCH]
    if bus.stops[s].is_open:
        return [ALREADY_SO]
    bus.stops[s].is_open = True
    return [0]


def close_stop(bus, s):
    if s >= len(bus.stops):
        return [NO_SUCH]
    if not bus.stops[s].is_open:
        return [ALREADY_SO]
    # Counted ahead of the closing: nobody is at a closed stop.
    left = len(pupils_at(bus, s))
    bus.stops[s].is_open = False
    bus.order = [other for other in bus.order if other != s]
    return [left]


def add_pupil(bus, x, y):
    if not is_place(x, y):
        return [OUT_OF_RANGE]
    if len(bus.pupils) == MOST_PUPILS:
        return [TOO_MANY]
    bus.pupils.append(Pupil((x, y)))
    return [len(bus.pupils) - 1]


def move_pupil(bus, p, x, y):
    if p >= len(bus.pupils):
        return [NO_SUCH]
    if not is_place(x, y):
        return [OUT_OF_RANGE]
    bus.pupils[p].home = (x, y)
    return [0]


def send_away(bus, p):
    if p >= len(bus.pupils):
        return [NO_SUCH]
    if not bus.pupils[p].is_there:
        return [ALREADY_SO]
    bus.pupils[p].is_there = False
    return [0]


def bring_back(bus, p):
    if p >= len(bus.pupils):
        return [NO_SUCH]
    if bus.pupils[p].is_there:
        return [ALREADY_SO]
    bus.pupils[p].is_there = True
    return [0]


def set_route(bus, told):
    if any([s >= len(bus.stops) for s in told]):
        return [NO_SUCH]
    if len(set(told)) < len(told):
        return [OUT_OF_RANGE]
    if any([not bus.stops[s].is_open for s in told]):
        return [CLOSED]
    bus.order = list(told)
    return [len(told)]


def take_best(bus):
    needed = stops_with_pupils(bus)
    refusal = refusal_to_order(needed)
    if refusal is not None:
        return [refusal]
    bus.order = best_order(bus, needed)
    return [len(needed)]
