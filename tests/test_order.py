"""Point 2: route and take, and which order is the best."""

import itertools

from tests.helper import (
    AWAY, BEGIN, BusTest, CLOSE, CLOSED, MOVES, NO_SUCH, NONE_AT_ALL, OUT_OF_RANGE, PLAIN, PUPIL, ROUTE, STOP, TAKE,
    TOO_MANY, UNSERVED, line_after, order_after, stops_and_pupils,
)
from schoolbus.orders import all_orders, way


class Route(BusTest):
    THREE = [PLAIN, (STOP, 0, 0), (STOP, 20, 0), (STOP, 40, 0)]

    def test_it_is_the_order(self):
        self.check_last(self.THREE + [(ROUTE, [2, 0])], [2])
        self.assertEqual(order_after(self.THREE + [(ROUTE, [2, 0])]), [2, 0])
        self.assertEqual(order_after(self.THREE + [(ROUTE, [2, 0]), (ROUTE, [1, 2, 0])]), [1, 2, 0])

    def test_with_no_stop(self):
        self.check_last(self.THREE + [(ROUTE, [])], [0])
        self.check_last([PLAIN, (ROUTE, [])], [0])
        self.assertEqual(order_after(self.THREE + [(ROUTE, [1]), (ROUTE, [])]), [])

    def test_all_ten(self):
        ten = [PLAIN] + [(STOP, k, k) for k in range(10)]
        order = [9, 0, 8, 1, 7, 2, 6, 3, 5, 4]
        self.check_last(ten + [(ROUTE, order)], [10])
        self.assertEqual(order_after(ten + [(ROUTE, order)]), order)

    def test_stops_with_nobody_stay_in_the_order(self):
        self.check_last(self.THREE + [(PUPIL, 0, 0), (ROUTE, [1, 0]), (UNSERVED,)], [0])
        self.assertEqual(order_after(self.THREE + [(PUPIL, 0, 0), (ROUTE, [1, 0])]), [1, 0])

    def test_no_such_stop(self):
        before = self.THREE + [(PUPIL, 0, 0)] * 5 + [(ROUTE, [1])]
        for wrong in ([3], [0, 1, 3], [3, 0], [255], [4, 0, 1, 2]):
            self.check_refused(before, (ROUTE, wrong), NO_SUCH)
        self.check_refused([PLAIN], (ROUTE, [0]), NO_SUCH)

    def test_a_stop_twice(self):
        for wrong in ([0, 0], [0, 1, 0], [2, 1, 0, 2], [1] * 100):
            self.check_refused(self.THREE + [(ROUTE, [1])], (ROUTE, wrong), OUT_OF_RANGE)

    def test_a_closed_stop(self):
        for wrong in ([1], [0, 1], [1, 2, 0]):
            self.check_refused(self.THREE + [(CLOSE, 1), (ROUTE, [2])], (ROUTE, wrong), CLOSED)

    def test_no_such_stop_is_told_first(self):
        before = self.THREE + [(CLOSE, 1), (ROUTE, [2])]
        for wrong in ([0, 0, 3], [3, 3], [1, 3], [3, 1], [1, 1, 3], [255] * 100):
            self.check_refused(before, (ROUTE, wrong), NO_SUCH)

    def test_twice_is_told_ahead_of_closed(self):
        before = self.THREE + [(CLOSE, 1), (ROUTE, [2])]
        for wrong in ([1, 1], [1, 0, 0], [0, 0, 1], [0, 1, 0]):
            self.check_refused(before, (ROUTE, wrong), OUT_OF_RANGE)

    def test_what_follows_a_long_route_is_read_right(self):
        self.check([(PLAIN, [0]), ((ROUTE, [10] * 100), NO_SUCH), ((STOP, 0, 0), [0]), ((ROUTE, [0]), [1])])


class Take(BusTest):
    def test_with_nobody_at_any_stop(self):
        self.check_refused([PLAIN], (TAKE,), NONE_AT_ALL)
        self.check_refused([PLAIN, (STOP, 0, 0), (ROUTE, [0])], (TAKE,), NONE_AT_ALL)
        self.check_refused([PLAIN, (PUPIL, 0, 0)], (TAKE,), NONE_AT_ALL)
        self.check_refused([PLAIN, (STOP, 0, 0), (PUPIL, 11, 0), (ROUTE, [0])], (TAKE,), NONE_AT_ALL)

    def test_with_all_away(self):
        self.check_refused([PLAIN, (STOP, 0, 0), (PUPIL, 0, 0), (AWAY, 0), (ROUTE, [0])], (TAKE,), NONE_AT_ALL)

    def test_with_all_closed(self):
        self.check_refused([PLAIN, (STOP, 0, 0), (PUPIL, 0, 0), (CLOSE, 0)], (TAKE,), NONE_AT_ALL)

    def test_the_shortest(self):
        # The garage at the left, school at the right: from left to right is the shortest.
        calls = [(BEGIN, 100, 0, -100, 0, 5, 9)] + stops_and_pupils([(50, 0), (-50, 0), (0, 0)]) + [(TAKE,)]
        self.check_last(calls, [3])
        self.assertEqual(order_after(calls), [1, 2, 0])

    def test_it_starts_at_the_garage_and_ends_at_school(self):
        places = [(50, 0), (-50, 0)]
        self.assertEqual(order_after([(BEGIN, -100, 0, 100, 0, 5, 9)] + stops_and_pupils(places) + [(TAKE,)]), [0, 1])
        self.assertEqual(order_after([(BEGIN, 100, 0, -100, 0, 5, 9)] + stops_and_pupils(places) + [(TAKE,)]), [1, 0])

    def test_of_alike_orders_the_lesser(self):
        # Garage and school are one place, so each order is as long as itself turned round.
        calls = [PLAIN] + stops_and_pupils([(0, 50), (50, 0), (0, -50)]) + [(TAKE,)]
        self.assertEqual(order_after(calls), [0, 1, 2])
        calls = [PLAIN] + stops_and_pupils([(30, 0), (60, 0)]) + [(TAKE,)]
        self.assertEqual(order_after(calls), [0, 1])
        calls = [PLAIN] + stops_and_pupils([(60, 0), (-40, 0), (30, 0)]) + [(TAKE,)]
        self.assertEqual(order_after(calls), [0, 2, 1])

    def test_alike_ones_that_differ_late(self):
        # First to stop 0 alone; the two behind it can be gone to in either order.
        calls = [(BEGIN, 0, 0, 100, 0, 5, 9)] + stops_and_pupils([(90, 0), (50, 20), (50, -20)]) + [(TAKE,)]
        self.assertEqual(order_after(calls), [0, 1, 2])

    def test_only_stops_with_somebody(self):
        calls = [PLAIN] + stops_and_pupils([(0, 50), (50, 0), (0, -50), (-50, 0)])
        calls = calls + [(STOP, 200, 200), (AWAY, 1), (CLOSE, 3), (ROUTE, [4, 1]), (TAKE,)]
        self.check_last(calls, [2])
        self.assertEqual(order_after(calls), [0, 2])

    def test_one_stop_for_many(self):
        calls = [PLAIN, (STOP, 5, 0)] + [(PUPIL, k, 0) for k in range(15)] + [(TAKE,)]
        self.check_last(calls, [1])
        self.assertEqual(order_after(calls), [0])

    def test_it_is_not_taken_anew_by_itself(self):
        calls = [PLAIN] + stops_and_pupils([(20, 0), (40, 0)]) + [(AWAY, 1), (TAKE,)]
        self.assertEqual(order_after(calls + [(MOVES, 0, 40, 0)]), [0])
        self.check_last(calls + [(MOVES, 0, 40, 0), (UNSERVED,)], [1, 0])

    def test_somebody_at_six_stops(self):
        places = [(70, 3), (20, -60), (-40, 40), (90, 90), (-80, -10), (35, 35)]
        calls = [(BEGIN, 11, 7, -13, 5, 5, 9)] + stops_and_pupils(places)
        self.check_last(calls + [(TAKE,)], [6])
        bus = line_after(calls).bus
        wanted = min((way(bus, order), order) for order in itertools.permutations(range(6)))[1]
        self.assertEqual(order_after(calls + [(TAKE,)]), list(wanted))

    def test_somebody_at_more_than_six(self):
        for many in (7, 8, 10):
            calls = [PLAIN] + stops_and_pupils([(50 * k, 0) for k in range(many)]) + [(ROUTE, [3])]
            self.check_refused(calls, (TAKE,), TOO_MANY)

    def test_ten_stops_and_somebody_at_six(self):
        calls = [PLAIN] + stops_and_pupils([(50 * k, 0) for k in range(10)]) + [(AWAY, k) for k in (1, 4, 6)]
        self.check_refused(calls, (TAKE,), TOO_MANY)
        self.check_last(calls + [(AWAY, 9), (TAKE,)], [6])
        self.assertEqual(order_after(calls + [(AWAY, 9), (TAKE,)]), [0, 2, 3, 5, 7, 8])


class Orders(BusTest):
    def test_every_order_once_the_lesser_first(self):
        self.assertEqual(all_orders([]), [[]])
        self.assertEqual(all_orders([4]), [[4]])
        for stops in ([0, 1], [1, 5, 9], [0, 2, 3, 4, 6, 8]):
            self.assertEqual(all_orders(stops), [list(order) for order in itertools.permutations(stops)])

    def test_the_way(self):
        bus = line_after([(BEGIN, 10, 0, 0, 10, 5, 9), (STOP, 3, 4), (STOP, -5, 6)]).bus
        self.assertEqual(way(bus, []), 20)
        self.assertEqual(way(bus, [0]), 9 + 11)
        self.assertEqual(way(bus, [0, 1]), 9 + 10 + 21)
        self.assertEqual(way(bus, [1, 0]), 9 + 10 + 11)
