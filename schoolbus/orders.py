"""Orders of stops, and the shortest of them."""

from schoolbus.places import how_far
from schoolbus.refusals import NONE_AT_ALL, TOO_MANY

MOST_STOPS_TO_ORDER = 6


def way(bus, order):
    far = 0
    here = bus.garage
    for s in order:
        far = far + how_far(here, bus.stops[s].place)
        here = bus.stops[s].place
    return far + how_far(here, bus.school)


def one_stop_longer(orders, stops):
    longer = []
    for order in orders:
        for s in stops:
            if s not in order:
                longer.append(order + [s])
    return longer


def all_orders(stops):
    orders = [[]]
    while len(orders[0]) < len(stops):
        orders = one_stop_longer(orders, stops)
    return orders


def refusal_to_order(stops):
    if len(stops) == 0:
        return NONE_AT_ALL
    if len(stops) > MOST_STOPS_TO_ORDER:
        return TOO_MANY
    return None


def best_order(bus, rising):
    # Of rising stops all_orders makes the lesser orders first, and min keeps the first of alike ones.
    return min(all_orders(rising), key=lambda order: way(bus, order))
