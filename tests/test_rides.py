"""Point 4: morning, evening, latest, ride, longest, toolong."""

from tests.helper import (
    AWAY, BEGIN, BusTest, CANNOT_BE, CLOSE, COMES, EVENING, LATEST, LONGEST, MORNING, MOST_WHOLE, MOVES, NO_SUCH,
    NONE_AT_ALL, OPEN, ORDER, OUT_OF_RANGE, PUPIL, RIDE, ROUTE, RULE, STATE, STOP, TAKE, TOOLONG, UNSERVED, last,
    stops_and_pupils,
)

# The garage at 0, 0, school at 100, 0; one walks 5 at most.
AHEAD = (BEGIN, 100, 0, 0, 0, 5, 9)

# Stop 0 with pupils 0 and 1, stop 1 with pupil 2, stop 2 with nobody, stop 3 with pupil 3 and not in the order.
BUSY = [
    AHEAD, (STOP, 40, 0), (STOP, 10, 0), (STOP, 70, 20), (STOP, 0, 50),
    (PUPIL, 40, 1), (PUPIL, 41, 0), (PUPIL, 10, 2), (PUPIL, 0, 50), (PUPIL, 500, 0), (PUPIL, 10, 0), (AWAY, 5),
    (ROUTE, [1, 2, 0]),
]
WAITING = BUSY + [(RULE, 7, 3, 10000)]

# Nobody is served, though there are stops in the order, and pupils.
NOBODY_SERVED = [
    [AHEAD],
    [AHEAD, (STOP, 40, 0), (ROUTE, [0]), (RULE, 7, 3, 10000)],
    [AHEAD, (STOP, 40, 0), (PUPIL, 40, 0), (RULE, 7, 3, 10000)],
    [AHEAD, (STOP, 40, 0), (PUPIL, 40, 0), (ROUTE, [0]), (AWAY, 0), (RULE, 7, 3, 10000)],
    [AHEAD, (STOP, 40, 0), (PUPIL, 40, 6), (ROUTE, [0]), (RULE, 7, 3, 10000)],
    [AHEAD, (STOP, 40, 0), (PUPIL, 40, 0), (ROUTE, [0]), (CLOSE, 0), (RULE, 7, 3, 10000)],
]


class Morning(BusTest):
    def test_without_waits(self):
        self.check_last(BUSY + [(MORNING, 0)], [2, 1, 10, 0, 40, 100])
        self.check_last(BUSY + [(MORNING, 25)], [2, 1, 35, 0, 65, 125])

    def test_it_waits_behind_its_coming_and_at_the_last_stop_too(self):
        # At stop 1 for 7 + 3, at stop 0 for 7 + 3 * 2.
        self.check_last(WAITING + [(MORNING, 0)], [2, 1, 10, 0, 50, 50 + 13 + 60])
        self.check_last(WAITING + [(MORNING, 1000)], [2, 1, 1010, 0, 1050, 1123])

    def test_the_halt_alone(self):
        self.check_last(BUSY + [(RULE, 7, 0, 0), (MORNING, 0)], [2, 1, 10, 0, 47, 114])

    def test_each_alone(self):
        self.check_last(BUSY + [(RULE, 0, 3, 0), (MORNING, 0)], [2, 1, 10, 0, 43, 109])

    def test_one_stop_and_its_wait(self):
        self.check_last(
            [AHEAD, (RULE, 100, 100, 0), (STOP, 50, 10)] + [(PUPIL, 50, 10)] * 20 + [(ROUTE, [0]), (MORNING, 5)],
            [1, 0, 65, 65 + 2100 + 60])

    def test_in_the_order_told_not_by_number_or_nearness(self):
        self.check_last(BUSY + [(ROUTE, [0, 1]), (MORNING, 0)], [2, 0, 40, 1, 70, 160])

    def test_it_does_not_go_to_a_stop_for_nobody(self):
        # By stop 2 the way would be longer.
        self.check_last(BUSY + [(ROUTE, [2, 1]), (MORNING, 0)], [1, 1, 10, 100])
        self.check_last(WAITING + [(ROUTE, [2]), (MORNING, 0)], [0, 100])

    def test_a_stop_at_which_all_are_away(self):
        self.check_last(WAITING + [(AWAY, 2), (MORNING, 0)], [1, 0, 40, 113])
        self.check_last(WAITING + [(AWAY, 2), (COMES, 2), (MORNING, 0)], [2, 1, 10, 0, 50, 123])

    def test_both_differences_count(self):
        self.check_last([(BEGIN, 3, -4, -1, 2, 0, 1), (STOP, 2, 7), (PUPIL, 2, 7), (ROUTE, [0]), (MORNING, 0)],
                        [1, 0, 8, 8 + 12])

    def test_with_nobody_served(self):
        for calls in NOBODY_SERVED:
            self.check_last(calls + [(MORNING, 0)], [0, 100])
            self.check_last(calls + [(MORNING, 7)], [0, 107])
        self.check_last([(BEGIN, 5, 5, 5, 5, 0, 1), (MORNING, 7)], [0, 7])

    def test_times(self):
        self.check_last(BUSY + [(MORNING, 99999)], [2, 1, 100009, 0, 100039, 100099])
        self.check_last(BUSY + [(MORNING, 100000)], [2, 1, 100010, 0, 100040, 100100])
        for calls in NOBODY_SERVED + [BUSY]:
            for t in (100001, MOST_WHOLE):
                self.check_refused(calls, (MORNING, t), OUT_OF_RANGE)

    def test_the_furthest_way(self):
        calls = [(BEGIN, -1000, -1000, 1000, 1000, 0, 60)] + stops_and_pupils([(-1000, -1000), (1000, 1000)])
        self.check_last(calls + [(ROUTE, [0, 1]), (MORNING, 0)], [2, 0, 4000, 1, 8000, 12000])


class Evening(BusTest):
    def test_turned_round(self):
        self.check_last(BUSY + [(EVENING, 0)], [2, 0, 60, 1, 90, 100])
        self.check_last(BUSY + [(EVENING, 25)], [2, 0, 85, 1, 115, 125])

    def test_it_waits_as_long(self):
        # At stop 0 for 7 + 3 * 2, at stop 1 for 7 + 3.
        self.check_last(WAITING + [(EVENING, 0)], [2, 0, 60, 1, 103, 123])
        self.check_last(WAITING + [(EVENING, 1000)], [2, 0, 1060, 1, 1103, 1123])
        self.check_last(BUSY + [(RULE, 7, 0, 0), (EVENING, 0)], [2, 0, 60, 1, 97, 114])
        self.check_last(BUSY + [(RULE, 0, 3, 0), (EVENING, 0)], [2, 0, 60, 1, 96, 109])

    def test_three_stops(self):
        calls = [AHEAD] + [(STOP, 10 * k, 0) for k in (1, 2, 3)] + [(PUPIL, 10 * k, 0) for k in (1, 2, 3)]
        self.check_last(calls + [(ROUTE, [1, 2, 0]), (EVENING, 0)], [3, 0, 90, 2, 110, 1, 120, 140])
        self.check_last(calls + [(ROUTE, [1, 2, 0]), (MORNING, 0)], [3, 1, 20, 2, 30, 0, 50, 140])

    def test_it_does_not_go_to_a_stop_for_nobody(self):
        self.check_last(BUSY + [(ROUTE, [2, 1]), (EVENING, 0)], [1, 1, 90, 100])
        self.check_last(WAITING + [(AWAY, 0), (AWAY, 1), (EVENING, 0)], [1, 1, 90, 110])

    def test_the_order_itself_stays(self):
        self.check_last(BUSY + [(EVENING, 0), (ORDER,)], [3, 1, 2, 0, 100])
        self.check_last(BUSY + [(EVENING, 0), (MORNING, 0)], [2, 1, 10, 0, 40, 100])

    def test_with_nobody_served(self):
        for calls in NOBODY_SERVED:
            self.check_last(calls + [(EVENING, 0)], [0, 100])
            self.check_last(calls + [(EVENING, 7)], [0, 107])

    def test_times(self):
        self.check_last(BUSY + [(EVENING, 100000)], [2, 0, 100060, 1, 100090, 100100])
        for calls in NOBODY_SERVED + [BUSY]:
            for t in (100001, MOST_WHOLE):
                self.check_refused(calls, (EVENING, t), OUT_OF_RANGE)


class Latest(BusTest):
    def test_just_at_0_and_one_before(self):
        self.check_last(BUSY + [(LATEST, 100)], [0])
        self.check_last(BUSY + [(LATEST, 101)], [1])
        self.check_refused(BUSY, (LATEST, 99), CANNOT_BE)
        self.check_refused(BUSY, (LATEST, 0), CANNOT_BE)

    def test_the_waits_count(self):
        self.check_last(WAITING + [(LATEST, 123)], [0])
        self.check_last(WAITING + [(LATEST, 500)], [377])
        self.check_refused(WAITING, (LATEST, 122), CANNOT_BE)

    def test_times(self):
        self.check_last(BUSY + [(LATEST, 100000)], [99900])
        for calls in NOBODY_SERVED + [BUSY]:
            for t in (100001, MOST_WHOLE):
                self.check_refused(calls, (LATEST, t), OUT_OF_RANGE)

    def test_with_nobody_served(self):
        for calls in NOBODY_SERVED:
            self.check_last(calls + [(LATEST, 100)], [0])
            self.check_last(calls + [(LATEST, 160)], [60])
            self.check_last(calls + [(LATEST, 100000)], [99900])
            self.check_refused(calls, (LATEST, 99), CANNOT_BE)
        self.check_last([(BEGIN, 5, 5, 5, 5, 0, 1), (LATEST, 0)], [0])

    def test_started_then_it_is_there_just_then(self):
        start = last(WAITING + [(LATEST, 4000)])[0]
        self.assertEqual(last(WAITING + [(MORNING, start)])[-1], 4000)


class Ride(BusTest):
    def test_from_its_coming_till_school(self):
        for p, wanted in ((0, 60), (1, 60), (2, 90)):
            self.check_last(BUSY + [(RIDE, p)], [wanted])

    def test_the_waits_from_ones_own_stop_on_count(self):
        for p, wanted in ((0, 73), (1, 73), (2, 113)):
            self.check_last(WAITING + [(RIDE, p)], [wanted])

    def test_one_who_is_away(self):
        self.check_refused(WAITING, (RIDE, 5), CANNOT_BE)
        self.check_refused(WAITING + [(AWAY, 0)], (RIDE, 0), CANNOT_BE)
        self.check_last(WAITING + [(AWAY, 0), (COMES, 0), (RIDE, 0)], [73])
        # Stop 0 then waits for one less.
        self.check_last(WAITING + [(AWAY, 0), (RIDE, 1)], [70])

    def test_one_whose_stop_is_not_in_the_order(self):
        self.check_refused(WAITING, (RIDE, 3), CANNOT_BE)
        self.check_last(WAITING + [(ROUTE, [3]), (RIDE, 3)], [160])
        self.check_refused(WAITING + [(ROUTE, [])], (RIDE, 0), CANNOT_BE)

    def test_one_who_has_no_stop(self):
        self.check_refused(WAITING, (RIDE, 4), CANNOT_BE)
        self.check_refused([AHEAD, (PUPIL, 0, 0)], (RIDE, 0), CANNOT_BE)

    def test_no_such_pupil(self):
        for p in (6, 20, MOST_WHOLE):
            self.check_refused(WAITING, (RIDE, p), NO_SUCH)
        self.check_refused([AHEAD, (STOP, 0, 0), (ROUTE, [0])], (RIDE, 0), NO_SUCH)

    def test_from_a_stop_at_school(self):
        calls = [AHEAD, (STOP, 100, 0), (PUPIL, 100, 0), (PUPIL, 100, 1), (ROUTE, [0])]
        self.check_last(calls + [(RIDE, 0)], [0])
        self.check_last(calls + [(RULE, 4, 5, 0), (RIDE, 1)], [14])

    def test_with_no_wait_at_ones_stop_and_one_behind_it(self):
        calls = [AHEAD, (STOP, 10, 0), (STOP, 20, 0), (PUPIL, 10, 0), (PUPIL, 20, 0), (RULE, 9, 0, 0)]
        self.check_last(calls + [(ROUTE, [0, 1]), (RIDE, 0)], [108])
        self.check_last(calls + [(ROUTE, [1, 0]), (RIDE, 0)], [99])


class Longest(BusTest):
    def test_who_and_how_long(self):
        self.check_last(BUSY + [(LONGEST,)], [2, 90])
        self.check_last(WAITING + [(LONGEST,)], [2, 113])
        self.check_last(WAITING + [(ROUTE, [1, 0, 3]), (LONGEST,)], [2, 10 + 30 + 13 + 90 + 10 + 150])

    def test_of_alike_ones_the_lesser(self):
        self.check_last(BUSY + [(ROUTE, [0]), (LONGEST,)], [0, 60])
        self.check_last(BUSY + [(ROUTE, [0]), (AWAY, 0), (LONGEST,)], [1, 60])

    def test_of_alike_ones_at_the_first_of_two_stops(self):
        # Rides from two stops are never alike: served stops are at two places, and the bus needs time between them.
        calls = BUSY + [(MOVES, 4, 10, 1), (COMES, 5)]
        self.check_last(calls + [(LONGEST,)], [2, 90])
        self.check_last(calls + [(AWAY, 2), (LONGEST,)], [4, 90])
        self.check_last(calls + [(ROUTE, [0, 1]), (LONGEST,)], [0, 120])

    def test_a_ride_of_0(self):
        self.check_last([AHEAD, (STOP, 100, 0), (PUPIL, 100, 0), (ROUTE, [0]), (LONGEST,)], [0, 0])

    def test_nobody_rides(self):
        for calls in NOBODY_SERVED:
            self.check_refused(calls, (LONGEST,), NONE_AT_ALL)


class TooLong(BusTest):
    def test_just_as_long_as_the_limit(self):
        self.check_last(BUSY + [(RULE, 0, 0, 90), (TOOLONG,)], [0])
        self.check_last(BUSY + [(RULE, 0, 0, 89), (TOOLONG,)], [1, 2])
        self.check_last(BUSY + [(RULE, 0, 0, 60), (TOOLONG,)], [1, 2])
        self.check_last(BUSY + [(RULE, 0, 0, 59), (TOOLONG,)], [3, 0, 1, 2])

    def test_the_waits_count(self):
        self.check_last(BUSY + [(RULE, 7, 3, 113), (TOOLONG,)], [0])
        self.check_last(BUSY + [(RULE, 7, 3, 112), (TOOLONG,)], [1, 2])
        self.check_last(BUSY + [(RULE, 7, 3, 72), (TOOLONG,)], [3, 0, 1, 2])

    def test_only_those_who_ride(self):
        self.check_last(BUSY + [(RULE, 0, 0, 0), (AWAY, 1), (TOOLONG,)], [2, 0, 2])
        self.check_last(BUSY + [(RULE, 0, 0, 0), (CLOSE, 1), (TOOLONG,)], [2, 0, 1])

    def test_rising_whatever_the_order(self):
        self.check_last(BUSY + [(RULE, 0, 0, 0), (ROUTE, [3, 1, 0]), (TOOLONG,)], [4, 0, 1, 2, 3])

    def test_nobody(self):
        for calls in NOBODY_SERVED:
            self.check_last(calls + [(RULE, 0, 0, 0), (TOOLONG,)], [0])

    def test_a_ride_of_0_is_not_longer_than_0(self):
        calls = [AHEAD, (STOP, 100, 0), (PUPIL, 100, 0), (ROUTE, [0]), (RULE, 0, 0, 0)]
        self.check_last(calls + [(TOOLONG,)], [0])
        self.check_last(calls + [(RULE, 0, 1, 0), (TOOLONG,)], [1, 0])

    def test_the_limit_at_the_beginning_is_10000(self):
        places = [(-1000, -1000), (1000, 1000), (-1000, 0), (1000, -1000)]
        calls = [(BEGIN, -1000, -1000, 0, 0, 0, 60)] + stops_and_pupils(places)
        just = calls + [(ROUTE, [0, 1, 3, 2])]
        self.check_last(just + [(RIDE, 0)], [4000 + 2000 + 3000 + 1000])
        self.check_last(just + [(TOOLONG,)], [0])
        longer = calls + [(STOP, 999, -1000), (PUPIL, 999, -1000), (ROUTE, [0, 1, 4, 3, 2])]
        self.check_last(longer + [(RIDE, 0)], [4000 + 2001 + 1 + 3000 + 1000])
        self.check_last(longer + [(TOOLONG,)], [1, 0])
        # A rule that is refused leaves it; one that allows as much does, too.
        self.check_last(just + [(RULE, 0, 1, 10001), (TOOLONG,)], [0])
        self.check_last(just + [(RULE, 0, 0, 10000), (TOOLONG,)], [0])
        self.check_last(just + [(RULE, 0, 1, 10000), (TOOLONG,)], [1, 0])


class Between(BusTest):
    def test_pupils_moving_going_away_and_coming_back(self):
        self.check([
            (AHEAD, [0]), ((RULE, 2, 1, 50), [0]), ((STOP, 20, 0), [0]), ((STOP, 60, 0), [1]),
            ((PUPIL, 20, 0), [0]), ((PUPIL, 60, 0), [1]), ((ROUTE, [0, 1]), [2]),
            ((MORNING, 0), [2, 0, 20, 1, 63, 106]), ((LONGEST,), [0, 86]), ((TOOLONG,), [1, 0]),
            ((MOVES, 0, 61, 0), [0]), ((MORNING, 0), [1, 1, 60, 104]), ((EVENING, 0), [1, 1, 40, 104]),
            ((RIDE, 0), [44]), ((LONGEST,), [0, 44]), ((TOOLONG,), [0]),
            ((AWAY, 1), [0]), ((MORNING, 0), [1, 1, 60, 103]), ((RIDE, 1), CANNOT_BE),
            ((MOVES, 0, 500, 500), [0]), ((MORNING, 0), [0, 100]), ((LONGEST,), NONE_AT_ALL),
            ((COMES, 1), [0]), ((MOVES, 0, 20, 1), [0]), ((MORNING, 0), [2, 0, 20, 1, 63, 106]),
            ((LATEST, 106), [0]), ((LATEST, 105), CANNOT_BE),
        ])

    def test_a_stop_of_the_order_closed_and_opened_again(self):
        self.check([
            (AHEAD, [0]), ((RULE, 2, 1, 50), [0]), ((STOP, 20, 0), [0]), ((STOP, 60, 0), [1]), ((STOP, 22, 0), [2]),
            ((PUPIL, 20, 0), [0]), ((PUPIL, 60, 0), [1]), ((ROUTE, [0, 1]), [2]),
            ((MORNING, 0), [2, 0, 20, 1, 63, 106]),
            # Pupil 0 goes to stop 2 then, which is not in the order.
            ((CLOSE, 0), [1]), ((MORNING, 0), [1, 1, 60, 103]), ((RIDE, 0), CANNOT_BE), ((UNSERVED,), [1, 0]),
            ((OPEN, 0), [0]), ((MORNING, 0), [1, 1, 60, 103]), ((ORDER,), [1, 1, 100]), ((UNSERVED,), [1, 0]),
            ((TAKE,), [2]), ((MORNING, 0), [2, 0, 20, 1, 63, 106]), ((STATE,), [0, 3, 3, 2, 2, 2, 106]),
        ])

    def test_a_stop_at_school_and_one_at_the_garage(self):
        calls = [AHEAD, (RULE, 2, 1, 50), (STOP, 100, 0), (STOP, 0, 0), (PUPIL, 100, 0), (PUPIL, 0, 0), (PUPIL, 0, 1)]
        self.check_last(calls + [(ROUTE, [1, 0]), (MORNING, 0)], [2, 1, 0, 0, 104, 107])
        self.check_last(calls + [(ROUTE, [1, 0]), (EVENING, 0)], [2, 0, 0, 1, 103, 107])
        self.check_last(calls + [(ROUTE, [0, 1]), (MORNING, 0)], [2, 0, 100, 1, 203, 307])
        self.check_last(calls + [(ROUTE, [1, 0]), (RIDE, 0)], [3])
        self.check_last(calls + [(ROUTE, [1, 0]), (LONGEST,)], [1, 107])
