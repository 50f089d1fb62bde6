"""Point 7: walks, reach, order, state."""

from tests.helper import (
    AWAY, BEGIN, BusTest, CLOSE, COMES, CORNERS, MOVES, NOT_PLACES, OPEN, ORDER, OUT_OF_RANGE, PLAIN, PUPIL, REACH,
    ROUTE, RULE, STATE, STOP, TAKE, WALKS, stops_and_pupils,
)


class Walks(BusTest):
    def test_nobody(self):
        for calls in ([], [(STOP, 0, 0)], [(PUPIL, 0, 0)], [(STOP, 0, 0), (PUPIL, 11, 0)],
                      [(STOP, 0, 0), (PUPIL, 1, 0), (AWAY, 0)], [(STOP, 0, 0), (PUPIL, 1, 0), (CLOSE, 0)]):
            self.check_last([PLAIN] + calls + [(WALKS,)], [0, 0, 0])

    def test_several(self):
        calls = [PLAIN, (STOP, 0, 0), (STOP, 50, 0), (PUPIL, 3, 4), (PUPIL, 50, -2), (PUPIL, 0, 1), (PUPIL, 900, 0)]
        self.check_last(calls + [(WALKS,)], [3, 10, 7])
        self.check_last(calls + [(AWAY, 0), (WALKS,)], [2, 3, 2])
        self.check_last(calls + [(AWAY, 0), (COMES, 0), (WALKS,)], [3, 10, 7])
        self.check_last(calls + [(CLOSE, 1), (WALKS,)], [2, 8, 7])
        self.check_last(calls + [(STOP, 3, 3), (WALKS,)], [3, 4, 2])

    def test_at_the_stop_itself(self):
        self.check_last([PLAIN, (STOP, 4, 4), (PUPIL, 4, 4), (WALKS,)], [1, 0, 0])

    def test_just_as_far_as_one_walks(self):
        self.check_last([PLAIN, (STOP, 0, 0), (PUPIL, -4, 6), (PUPIL, 4, 7), (WALKS,)], [1, 10, 10])

    def test_who_does_not_ride_walks_too(self):
        calls = [PLAIN, (STOP, 0, 0), (PUPIL, 1, 0)]
        for route in ([], [0]):
            self.check_last(calls + [(ROUTE, route), (WALKS,)], [1, 1, 1])


class Reach(BusTest):
    def test_just_as_far_as_one_walks(self):
        calls = [PLAIN, (PUPIL, 0, 0), (PUPIL, 5, 5), (PUPIL, 5, 6)]
        self.check_last(calls + [(REACH, 0, 0)], [2, 2])
        self.check_last(calls + [(REACH, -10, 0)], [1, 1])
        self.check_last(calls + [(REACH, -11, 0)], [0, 0])
        self.check_last(calls + [(REACH, 5, 5)], [3, 3])

    def test_some_have_no_stop(self):
        calls = [PLAIN, (STOP, 0, 0), (PUPIL, 10, 0), (PUPIL, 11, 0), (PUPIL, 12, 0), (PUPIL, 500, 0)]
        self.check_last(calls + [(REACH, 15, 0)], [3, 2])
        self.check_last(calls + [(REACH, 20, 0)], [3, 2])
        self.check_last(calls + [(REACH, 22, 0)], [1, 1])
        self.check_last(calls + [(REACH, 0, 0)], [1, 0])
        self.check_last(calls + [(CLOSE, 0), (REACH, 15, 0)], [3, 3])
        self.check_last(calls + [(CLOSE, 0), (OPEN, 0), (REACH, 15, 0)], [3, 2])

    def test_who_is_away_is_not_counted(self):
        calls = [PLAIN, (STOP, 0, 0), (PUPIL, 10, 0), (PUPIL, 11, 0), (AWAY, 0)]
        self.check_last(calls + [(REACH, 10, 0)], [1, 1])
        self.check_last(calls + [(AWAY, 1), (REACH, 10, 0)], [0, 0])
        self.check_last(calls + [(COMES, 0), (REACH, 10, 0)], [2, 1])

    def test_there_need_be_no_stop_at_the_place(self):
        self.check_last([PLAIN, (PUPIL, 700, 700), (REACH, 700, 709)], [1, 1])
        self.check_last([PLAIN, (REACH, 0, 0)], [0, 0])

    def test_corners(self):
        for x, y in CORNERS:
            self.check_last([PLAIN, (PUPIL, x, y), (PUPIL, 0, 0), (REACH, x, y)], [1, 1])

    def test_out_of_range(self):
        for x, y in NOT_PLACES:
            self.check_refused([PLAIN, (STOP, 0, 0), (PUPIL, 1000, 0), (PUPIL, 0, -1000)], (REACH, x, y), OUT_OF_RANGE)


class Order(BusTest):
    THREE = [(BEGIN, 100, 0, 0, 0, 5, 9), (STOP, 10, 0), (STOP, 30, 40), (STOP, 20, 0), (PUPIL, 10, 0), (PUPIL, 20, 1)]

    def test_no_stop(self):
        self.check_last([(BEGIN, 100, 0, 0, 0, 5, 9), (ORDER,)], [0, 100])
        self.check_last([PLAIN, (ORDER,)], [0, 0])
        self.check_last(self.THREE + [(ORDER,)], [0, 100])
        self.check_last(self.THREE + [(ROUTE, [2, 1]), (ROUTE, []), (ORDER,)], [0, 100])

    def test_in_its_order_and_the_way(self):
        self.check_last(self.THREE + [(ROUTE, [0, 2]), (ORDER,)], [2, 0, 2, 100])
        self.check_last(self.THREE + [(ROUTE, [2, 0]), (ORDER,)], [2, 2, 0, 120])

    def test_a_stop_for_nobody_is_told_but_not_gone_to(self):
        self.check_last(self.THREE + [(ROUTE, [2, 1, 0]), (ORDER,)], [3, 2, 1, 0, 120])
        self.check_last(self.THREE + [(ROUTE, [1]), (ORDER,)], [1, 1, 100])
        self.check_last(self.THREE + [(ROUTE, [2, 1, 0]), (MOVES, 1, 30, 40), (ORDER,)], [3, 2, 1, 0, 70 + 60 + 90])
        self.check_last(self.THREE + [(ROUTE, [2, 1, 0]), (AWAY, 1), (ORDER,)], [3, 2, 1, 0, 100])

    def test_waits_are_no_way(self):
        self.check_last(self.THREE + [(ROUTE, [2, 0]), (RULE, 100, 100, 0), (ORDER,)], [2, 2, 0, 120])

    def test_a_stop_of_it_closed_then_opened_again(self):
        calls = self.THREE + [(ROUTE, [2, 1, 0]), (CLOSE, 2)]
        self.check_last(calls + [(ORDER,)], [2, 1, 0, 100])
        self.check_last(calls + [(OPEN, 2), (ORDER,)], [2, 1, 0, 100])
        self.check_last(calls + [(OPEN, 2), (TAKE,), (ORDER,)], [2, 0, 2, 100])

    def test_all_ten(self):
        calls = [PLAIN] + [(STOP, k, 0) for k in range(10)]
        route = [9, 0, 8, 1, 7, 2, 6, 3, 5, 4]
        self.check_last(calls + [(ROUTE, route), (ORDER,)], [10] + route + [0])

    def test_what_is_refused_leaves_it(self):
        for route in ([2, 2], [3], [1, 255]):
            self.check_last(self.THREE + [(ROUTE, [2, 0]), (ROUTE, route), (ORDER,)], [2, 2, 0, 120])


class State(BusTest):
    def test_at_the_beginning(self):
        self.check_last([PLAIN, (STATE,)], [0, 0, 0, 0, 0, 0, 0])
        self.check_last([(BEGIN, 3, 4, -1, -2, 5, 9), (STATE,)], [0, 0, 0, 0, 0, 0, 10])

    def test_after_each_kind_of_change(self):
        rows = [
            ((BEGIN, 100, 0, 0, 0, 5, 9), [0], [0, 0, 0, 0, 0, 0, 100]),
            ((STOP, 10, 0), [0], [0, 1, 1, 0, 0, 0, 100]),
            ((STOP, 20, 10), [1], [0, 2, 2, 0, 0, 0, 100]),
            ((STOP, 900, 0), [2], [0, 3, 3, 0, 0, 0, 100]),
            ((PUPIL, 10, 0), [0], [0, 3, 3, 1, 1, 0, 100]),
            ((PUPIL, 20, 10), [1], [0, 3, 3, 2, 2, 0, 100]),
            ((PUPIL, 20, 11), [2], [0, 3, 3, 3, 3, 0, 100]),
            ((PUPIL, -900, 0), [3], [0, 3, 3, 4, 4, 0, 100]),
            ((ROUTE, [1]), [1], [0, 3, 3, 4, 4, 2, 120]),
            ((RULE, 5, 2, 0), [0], [0, 3, 3, 4, 4, 2, 129]),
            ((RULE, 101, 2, 0), [-22], [0, 3, 3, 4, 4, 2, 129]),
            ((TAKE,), [2], [0, 3, 3, 4, 4, 3, 136]),
            ((AWAY, 2), [0], [0, 3, 3, 4, 3, 2, 134]),
            ((AWAY, 2), [-17], [0, 3, 3, 4, 3, 2, 134]),
            ((AWAY, 3), [0], [0, 3, 3, 4, 2, 2, 134]),
            ((COMES, 2), [0], [0, 3, 3, 4, 3, 3, 136]),
            ((MOVES, 0, 20, 10), [0], [0, 3, 3, 4, 3, 3, 131]),
            ((MOVES, 0, 10, 1), [0], [0, 3, 3, 4, 3, 3, 136]),
            ((CLOSE, 1), [2], [0, 3, 2, 4, 3, 1, 107]),
            ((OPEN, 1), [0], [0, 3, 3, 4, 3, 1, 107]),
            ((TAKE,), [2], [0, 3, 3, 4, 3, 3, 136]),
            ((ROUTE, []), [0], [0, 3, 3, 4, 3, 0, 100]),
            ((BEGIN, 0, 0, 7, 0, 5, 0), [-22], [0, 3, 3, 4, 3, 0, 100]),
            ((BEGIN, 0, 0, 7, 0, 5, 1), [0], [0, 0, 0, 0, 0, 0, 7]),
        ]
        self.check([row for call, told, state in rows for row in ((call, told), ((STATE,), state))])

    def test_as_many_as_there_can_be(self):
        calls = [PLAIN] + [(STOP, 50 * k, 0) for k in range(10)] + [(PUPIL, 50 * (k // 2), 0) for k in range(20)]
        calls = calls + [(RULE, 100, 100, 10000), (ROUTE, list(range(10))), (STOP, 0, 0), (PUPIL, 0, 0), (STATE,)]
        self.check_last(calls, [0, 10, 10, 20, 20, 20, 900 + 1000 + 2000])

    def test_seats_do_not_matter_for_who_rides(self):
        calls = [(BEGIN, 0, 0, 0, 0, 5, 1)] + stops_and_pupils([(10, 0), (20, 0)]) + [(ROUTE, [0, 1]), (STATE,)]
        self.check_last(calls, [0, 2, 2, 2, 2, 2, 40])
