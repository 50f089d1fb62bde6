"""Point 5: loads and full."""

from tests.helper import (
    AWAY, BEGIN, BusTest, CLOSE, COMES, EVENING, FULL, LOADS, MOVES, NONE_AT_ALL, PUPIL, ROUTE, STOP,
)

PLACES = (10, 20, 30)


def bus_with(seats, pupils, route):
    """As many pupils at each of three stops as told."""
    calls = [(BEGIN, 0, 0, 0, 0, 3, seats)] + [(STOP, x, 0) for x in PLACES]
    for x, many in zip(PLACES, pupils):
        calls = calls + [(PUPIL, x, 0)] * many
    return calls + [(ROUTE, route)]


NOBODY = [
    [(BEGIN, 0, 0, 0, 0, 3, 1)],
    bus_with(1, (0, 0, 0), [0, 1, 2]),
    bus_with(1, (3, 2, 1), []),
    bus_with(1, (2, 0, 0), [0, 1]) + [(AWAY, 0), (AWAY, 1)],
    bus_with(1, (2, 0, 0), [1, 2]),
    bus_with(1, (2, 0, 0), [0]) + [(CLOSE, 0)],
]


class Loads(BusTest):
    def test_how_many_are_on_the_bus_behind_each(self):
        self.check_last(bus_with(9, (3, 2, 1), [0, 1, 2]) + [(LOADS,)], [3, 3, 5, 6])
        self.check_last(bus_with(9, (3, 2, 1), [2, 0, 1]) + [(LOADS,)], [3, 1, 4, 6])

    def test_seats_do_not_matter(self):
        self.check_last(bus_with(1, (3, 2, 1), [0, 1, 2]) + [(LOADS,)], [3, 3, 5, 6])

    def test_only_of_served_stops(self):
        self.check_last(bus_with(9, (3, 0, 1), [1, 0, 2]) + [(LOADS,)], [2, 3, 4])
        self.check_last(bus_with(9, (3, 2, 1), [2, 1]) + [(LOADS,)], [2, 1, 3])

    def test_who_is_away_is_not_on_it(self):
        calls = bus_with(9, (3, 2, 1), [0, 1, 2]) + [(AWAY, 1), (AWAY, 3), (AWAY, 4)]
        self.check_last(calls + [(LOADS,)], [2, 2, 3])
        self.check_last(calls + [(COMES, 4), (LOADS,)], [3, 2, 3, 4])

    def test_who_has_no_stop_is_not_on_it(self):
        self.check_last(bus_with(9, (3, 2, 1), [0, 1, 2]) + [(MOVES, 0, 90, 0), (LOADS,)], [3, 2, 4, 5])

    def test_all_twenty(self):
        self.check_last(bus_with(60, (10, 0, 10), [0, 1, 2]) + [(LOADS,)], [2, 10, 20])

    def test_nobody(self):
        for calls in NOBODY:
            self.check_last(calls + [(LOADS,)], [0])


class Full(BusTest):
    def test_just_enough(self):
        self.check_refused(bus_with(6, (3, 2, 1), [0, 1, 2]), (FULL,), NONE_AT_ALL)
        self.check_refused(bus_with(60, (3, 2, 1), [0, 1, 2]), (FULL,), NONE_AT_ALL)
        self.check_refused(bus_with(1, (0, 1, 0), [0, 1, 2]), (FULL,), NONE_AT_ALL)

    def test_one_too_few(self):
        self.check_last(bus_with(5, (3, 2, 1), [0, 1, 2]) + [(FULL,)], [2, 1])
        self.check_last(bus_with(5, (3, 2, 1), [2, 0, 1]) + [(FULL,)], [1, 1])

    def test_the_first_even_where_more_are_missing_later(self):
        self.check_last(bus_with(4, (3, 2, 1), [0, 1, 2]) + [(FULL,)], [1, 1])
        self.check_last(bus_with(1, (3, 2, 1), [0, 1, 2]) + [(FULL,)], [0, 2])
        self.check_last(bus_with(2, (3, 2, 9), [1, 2, 0]) + [(FULL,)], [2, 9])

    def test_first_in_the_order_not_by_number(self):
        self.check_last(bus_with(1, (3, 2, 1), [2, 1, 0]) + [(FULL,)], [1, 2])

    def test_who_is_away_needs_no_seat(self):
        calls = bus_with(5, (3, 2, 1), [0, 1, 2])
        self.check_refused(calls + [(AWAY, 0)], (FULL,), NONE_AT_ALL)
        self.check_last(calls + [(AWAY, 0), (COMES, 0), (FULL,)], [2, 1])

    def test_a_stop_for_nobody_is_not_told(self):
        self.check_last(bus_with(1, (1, 0, 1), [0, 1, 2]) + [(FULL,)], [2, 1])

    def test_the_way_home_does_not_matter(self):
        self.check_last(bus_with(5, (3, 2, 1), [0, 1, 2]) + [(EVENING, 0), (FULL,)], [2, 1])

    def test_nobody(self):
        for calls in NOBODY:
            self.check_refused(calls, (FULL,), NONE_AT_ALL)
