"""Point 6: best, fewest, spare."""

import itertools

from tests.helper import (
    AT, AWAY, BEGIN, BEST, BusTest, CANNOT_BE, CLOSE, COMES, FEWEST, MOVES, NONE_AT_ALL, OPEN, ORDER, PLAIN, PUPIL,
    ROUTE, RULE, SPARE, STOP, TAKE, TOO_MANY, UNREACHED, WHERE, ask, far, stops_and_pupils,
)


class Best(BusTest):
    def test_the_way_then_the_order(self):
        calls = [(BEGIN, 100, 0, -100, 0, 5, 9)] + stops_and_pupils([(50, 10), (-50, 0), (0, 0)])
        self.check_last(calls + [(BEST,)], [220, 1, 2, 0])
        self.check_last([PLAIN, (STOP, 3, 4), (PUPIL, 3, 4), (BEST,)], [14, 0])

    def test_from_the_garage_to_school(self):
        places = [(50, 0), (-50, 0)]
        self.check_last([(BEGIN, -100, 0, 100, 0, 5, 9)] + stops_and_pupils(places) + [(BEST,)], [200, 0, 1])
        self.check_last([(BEGIN, 100, 0, -100, 0, 5, 9)] + stops_and_pupils(places) + [(BEST,)], [200, 1, 0])

    def test_of_alike_ones_the_lesser(self):
        # Garage and school are one place, so each order is as long as itself turned round.
        self.check_last([PLAIN] + stops_and_pupils([(30, 0), (60, 0)]) + [(BEST,)], [120, 0, 1])
        self.check_last([PLAIN] + stops_and_pupils([(60, 0), (30, 0)]) + [(BEST,)], [120, 0, 1])
        self.check_last([PLAIN] + stops_and_pupils([(60, 0), (-40, 0), (30, 0)]) + [(BEST,)], [200, 0, 2, 1])

    def test_alike_ones_that_differ_late(self):
        calls = [(BEGIN, 0, 0, 100, 0, 5, 9)] + stops_and_pupils([(90, 0), (50, 20), (50, -20)])
        self.check_last(calls + [(BEST,)], [180, 0, 1, 2])

    def test_waits_are_no_way(self):
        self.check_last([PLAIN, (RULE, 100, 100, 0), (STOP, 3, 4), (PUPIL, 3, 4), (BEST,)], [14, 0])

    def test_all_stops_at_which_somebody_is_whatever_the_order(self):
        calls = [PLAIN] + stops_and_pupils([(20, 0), (40, 0), (60, 0), (80, 0)]) + [(STOP, 500, 0)]
        for route in ([], [1], [4], [3, 1, 0]):
            self.check_last(calls + [(ROUTE, route), (BEST,)], [160, 0, 1, 2, 3])
        self.check_last(calls + [(AWAY, 3), (CLOSE, 1), (BEST,)], [120, 0, 2])

    def test_nobody_at_any_stop(self):
        self.check_refused([PLAIN], (BEST,), NONE_AT_ALL)
        self.check_refused([PLAIN, (STOP, 0, 0), (ROUTE, [0])], (BEST,), NONE_AT_ALL)
        self.check_refused([PLAIN, (PUPIL, 0, 0)], (BEST,), NONE_AT_ALL)
        self.check_refused([PLAIN, (STOP, 0, 0), (PUPIL, 11, 0), (ROUTE, [0])], (BEST,), NONE_AT_ALL)
        self.check_refused([PLAIN, (STOP, 0, 0), (PUPIL, 0, 0), (AWAY, 0), (ROUTE, [0])], (BEST,), NONE_AT_ALL)
        self.check_refused([PLAIN, (STOP, 0, 0), (PUPIL, 0, 0), (CLOSE, 0)], (BEST,), NONE_AT_ALL)

    def test_at_six_stops(self):
        places = [(70, 3), (20, -60), (-40, 40), (90, 90), (-80, -10), (35, 35)]
        calls = [(BEGIN, 11, 7, -13, 5, 5, 9)] + stops_and_pupils(places)
        ways = []
        for order in itertools.permutations(range(6)):
            line = [(-13, 5)] + [places[s] for s in order] + [(11, 7)]
            ways.append((sum(far(one, other) for one, other in zip(line, line[1:])), order))
        self.check_last(calls + [(BEST,)], [min(ways)[0], *min(ways)[1]])

    def test_at_seven_stops_and_more(self):
        for many in (7, 8, 10):
            calls = [PLAIN] + stops_and_pupils([(50 * k, 0) for k in range(many)]) + [(ROUTE, [3])]
            self.check_refused(calls, (BEST,), TOO_MANY)

    def test_seven_stops_and_somebody_at_six(self):
        calls = [PLAIN] + stops_and_pupils([(50 * k, 0) for k in range(7)])
        self.check_last(calls + [(AWAY, 6), (BEST,)], [500, 0, 1, 2, 3, 4, 5])
        self.check_refused(calls + [(AWAY, 6), (COMES, 6)], (BEST,), TOO_MANY)

    def test_it_changes_nothing_and_take_does(self):
        calls = [PLAIN] + stops_and_pupils([(20, 0), (40, 0), (60, 0)]) + [(ROUTE, [2, 1])]
        self.assertEqual(
            ask(calls + [(BEST,), (ORDER,), (TAKE,), (ORDER,), (BEST,)])[len(calls):],
            [[120, 0, 1, 2], [2, 2, 1, 120], [3], [3, 0, 1, 2, 120], [120, 0, 1, 2]],
        )


class Fewest(BusTest):
    def test_nobody_there(self):
        self.check_last([PLAIN, (FEWEST,)], [0])
        self.check_last([PLAIN, (STOP, 0, 0), (FEWEST,)], [0])
        self.check_last([PLAIN, (PUPIL, 0, 0), (AWAY, 0), (FEWEST,)], [0])

    def test_not_even_all_open_stops_do(self):
        self.check_refused([PLAIN, (PUPIL, 0, 0)], (FEWEST,), CANNOT_BE)
        self.check_refused([PLAIN, (STOP, 0, 0), (PUPIL, 0, 0), (PUPIL, 11, 0)], (FEWEST,), CANNOT_BE)
        ten = [PLAIN] + [(STOP, 50 * k, 0) for k in range(10)] + [(PUPIL, 50 * k, 0) for k in range(10)]
        self.check_refused(ten + [(PUPIL, 25, 0)], (FEWEST,), CANNOT_BE)

    def test_one_that_does_for_all(self):
        calls = [PLAIN, (STOP, 0, 0), (STOP, 20, 0), (STOP, 10, 0), (PUPIL, 0, 0), (PUPIL, 20, 0), (PUPIL, 12, 0)]
        self.check_last(calls + [(FEWEST,)], [1, 2])
        # They need not be the nearest ones: these would be all three.
        self.assertEqual(ask(calls + [(AT, s) for s in range(3)])[-3:], [[1, 0], [1, 1], [1, 2]])

    def test_just_as_far_as_one_walks(self):
        calls = [PLAIN, (STOP, 5, 5), (PUPIL, 0, 0), (PUPIL, 10, 10), (STOP, 0, 0), (STOP, 10, 10)]
        self.check_last(calls + [(FEWEST,)], [1, 0])
        self.check_last(calls + [(MOVES, 1, 10, 11), (FEWEST,)], [2, 0, 2])

    def test_of_alike_many_the_lesser(self):
        same = [PLAIN, (STOP, 500, 0), (STOP, 0, 0), (STOP, 1, 0), (STOP, 2, 0), (PUPIL, 0, 0)]
        self.check_last(same + [(FEWEST,)], [1, 1])
        self.check_last(same + [(CLOSE, 1), (FEWEST,)], [1, 2])
        # Either of stops 0 and 3, and either of stops 1 and 2.
        two = [PLAIN, (STOP, 0, 0), (STOP, 50, 0), (STOP, 51, 0), (STOP, 1, 0), (PUPIL, 0, 0), (PUPIL, 50, 0)]
        self.check_last(two + [(FEWEST,)], [2, 0, 1])
        self.check_last(two + [(CLOSE, 0), (FEWEST,)], [2, 1, 3])
        self.check_last(two + [(CLOSE, 1), (FEWEST,)], [2, 0, 2])

    def test_alike_many_that_differ_first_at_the_second(self):
        calls = [PLAIN, (STOP, 0, 0), (STOP, 90, 0), (STOP, 40, 0), (STOP, 41, 0), (PUPIL, 0, 0), (PUPIL, 42, 0)]
        self.check_last(calls + [(FEWEST,)], [2, 0, 2])

    def test_the_first_stop_decides_ahead_of_the_later_ones(self):
        # Two do: 0 with 5, and 1 with 2, which has the lesser stop only behind where they first differ.
        calls = [(BEGIN, 0, 0, 0, 0, 1, 9)]
        calls = calls + [(STOP, x, y) for x, y in ((1, 0), (0, 1), (2, 1), (900, 0), (901, 0), (1, 2))]
        calls = calls + [(PUPIL, x, y) for x, y in ((0, 0), (2, 0), (0, 2), (2, 2))]
        self.check_last(calls + [(FEWEST,)], [2, 0, 5])
        self.check_last(calls + [(CLOSE, 0), (FEWEST,)], [2, 1, 2])

    def test_fewer_ahead_of_lesser(self):
        calls = [PLAIN, (STOP, 0, 0), (STOP, 20, 0), (STOP, 10, 0), (PUPIL, 0, 0), (PUPIL, 20, 0)]
        self.check_last(calls + [(FEWEST,)], [1, 2])

    def test_taking_always_the_stop_for_most_would_be_too_many(self):
        # Stop 0 is near to four, stops 1 and 2 to three each, who are all.
        calls = [(BEGIN, 0, 0, 0, 0, 10, 9), (STOP, 0, 0), (STOP, -8, 0), (STOP, 8, 0)]
        homes = [(-4, 5), (-5, -5), (-18, 0), (4, 5), (5, -5), (18, 0)]
        self.check_last(calls + [(PUPIL, x, y) for x, y in homes] + [(FEWEST,)], [2, 1, 2])

    def test_a_closed_stop_does_not_do(self):
        calls = [PLAIN, (STOP, 10, 0), (STOP, 0, 0), (STOP, 20, 0), (PUPIL, 0, 0), (PUPIL, 20, 0)]
        self.check_last(calls + [(FEWEST,)], [1, 0])
        self.check_last(calls + [(CLOSE, 0), (FEWEST,)], [2, 1, 2])
        self.check_last(calls + [(CLOSE, 0), (OPEN, 0), (FEWEST,)], [1, 0])
        self.check_refused(calls + [(CLOSE, 0), (CLOSE, 1)], (FEWEST,), CANNOT_BE)

    def test_one_who_is_away_is_not_counted(self):
        calls = [PLAIN, (STOP, 0, 0), (STOP, 50, 0), (PUPIL, 0, 0), (PUPIL, 50, 0), (PUPIL, 900, 0)]
        self.check_refused(calls, (FEWEST,), CANNOT_BE)
        self.check_last(calls + [(AWAY, 2), (FEWEST,)], [2, 0, 1])
        self.check_last(calls + [(AWAY, 2), (AWAY, 0), (FEWEST,)], [1, 1])
        self.check_refused(calls + [(AWAY, 2), (COMES, 2)], (FEWEST,), CANNOT_BE)

    def test_the_order_does_not_matter(self):
        calls = [PLAIN, (STOP, 0, 0), (STOP, 1, 0), (PUPIL, 0, 0)]
        for route in ([], [1], [0, 1]):
            self.check_last(calls + [(ROUTE, route), (FEWEST,)], [1, 0])

    def test_ten_open_stops(self):
        apart = [PLAIN] + stops_and_pupils([(50 * k, 0) for k in range(10)])
        self.check_last(apart + [(FEWEST,)], [10] + list(range(10)))
        row = [(BEGIN, 0, 0, 0, 0, 10, 9)] + [(STOP, 10 * k, 0) for k in range(10)]
        row = row + [(PUPIL, 10 * k, 0) for k in range(10)]
        # Each stop is near to its own pupil and both neighbours, and ten need four such.
        self.check_last(row + [(FEWEST,)], [4, 0, 2, 5, 8])
        self.check_last(row + [(AWAY, 0), (FEWEST,)], [3, 2, 5, 8])


class Spare(BusTest):
    def test_needed_and_not(self):
        calls = [PLAIN, (STOP, 0, 0), (STOP, 8, 0), (STOP, 100, 0), (PUPIL, 0, 0), (PUPIL, 100, 0)]
        self.check_last(calls + [(SPARE,)], [2, 0, 1])
        self.check_last(calls + [(MOVES, 0, 18, 0), (SPARE,)], [1, 0])
        self.check_last(calls + [(MOVES, 0, 11, 0), (SPARE,)], [1, 0])
        self.check_last(calls + [(MOVES, 0, 10, 0), (SPARE,)], [2, 0, 1])

    def test_one_that_somebody_needs_alone(self):
        self.check_last([PLAIN, (STOP, 0, 0), (PUPIL, 0, 0), (SPARE,)], [0])
        # The others could go to stop 1, this one couldn't.
        self.check_last([PLAIN, (STOP, 0, 0), (STOP, 8, 0), (PUPIL, 1, 0), (PUPIL, -3, 0), (SPARE,)], [1, 1])

    def test_one_that_nobody_needs(self):
        self.check_last([PLAIN, (STOP, 0, 0), (SPARE,)], [1, 0])
        self.check_last([PLAIN, (SPARE,)], [0])
        self.check_last([PLAIN, (STOP, 0, 0), (PUPIL, 0, 0), (AWAY, 0), (SPARE,)], [1, 0])
        self.check_last([PLAIN, (STOP, 0, 0), (PUPIL, 0, 0), (AWAY, 0), (COMES, 0), (SPARE,)], [0])

    def test_each_alone_not_all_together(self):
        self.check_last([PLAIN, (STOP, 0, 0), (STOP, 1, 0), (PUPIL, 0, 0), (SPARE,)], [2, 0, 1])
        self.check_last([PLAIN, (STOP, 0, 0), (STOP, 1, 0), (PUPIL, 0, 0), (CLOSE, 0), (SPARE,)], [0])

    def test_a_pupil_whom_nobody_reaches_keeps_none(self):
        calls = [PLAIN, (STOP, 0, 0), (STOP, 1, 0), (PUPIL, 0, 0), (PUPIL, 900, 0)]
        self.check_last(calls + [(UNREACHED,)], [1, 1])
        self.check_last(calls + [(SPARE,)], [2, 0, 1])
        self.check_last([PLAIN, (STOP, 0, 0), (PUPIL, 900, 0), (SPARE,)], [1, 0])

    def test_a_closed_stop_is_not_told_and_helps_nobody(self):
        calls = [PLAIN, (STOP, 0, 0), (STOP, 1, 0), (STOP, 2, 0), (PUPIL, 0, 0), (CLOSE, 1)]
        self.check_last(calls + [(SPARE,)], [2, 0, 2])
        self.check_last(calls + [(CLOSE, 2), (SPARE,)], [0])
        self.check_last(calls + [(CLOSE, 2), (OPEN, 1), (SPARE,)], [2, 0, 1])

    def test_the_order_does_not_matter(self):
        calls = [PLAIN, (STOP, 0, 0), (STOP, 1, 0), (PUPIL, 0, 0)]
        for route in ([], [0], [1, 0]):
            self.check_last(calls + [(ROUTE, route), (SPARE,)], [2, 0, 1])

    def test_closing_one_leaves_them_a_stop(self):
        calls = [PLAIN, (STOP, 0, 0), (STOP, 8, 0), (PUPIL, 0, 0), (PUPIL, 9, 0), (SPARE,)]
        self.check_last(calls, [2, 0, 1])
        self.check_last(calls + [(CLOSE, 0), (WHERE, 0)], [1, 8])
        self.check_last(calls + [(CLOSE, 1), (WHERE, 1)], [0, 9])

    def test_ten(self):
        self.check_last([PLAIN] + [(STOP, k, 0) for k in range(10)] + [(PUPIL, 4, 0), (SPARE,)], [10] + list(range(10)))
