"""Point 3: where, at, unreached, unserved."""

from tests.helper import (
    AT, AWAY, BusTest, CANNOT_BE, CLOSE, COMES, MOST_WHOLE, NO_SUCH, PLAIN, PUPIL, ROUTE, STOP, TAKE, UNREACHED,
    UNSERVED, WHERE,
)


class Where(BusTest):
    def test_the_nearest(self):
        self.check([
            (PLAIN, [0]), ((STOP, -3, 4), [0]), ((STOP, 2, -1), [1]), ((STOP, 9, 0), [2]), ((PUPIL, 0, 0), [0]),
            ((PUPIL, 8, 0), [1]), ((PUPIL, -4, 4), [2]),
            ((WHERE, 0), [1, 3]), ((WHERE, 1), [2, 1]), ((WHERE, 2), [0, 1]),
        ])

    def test_how_far_is_both_differences_together(self):
        # By the straight line stop 1 would be nearer.
        self.check([
            (PLAIN, [0]), ((STOP, 6, 0), [0]), ((STOP, 4, 4), [1]), ((PUPIL, 0, 0), [0]), ((WHERE, 0), [0, 6]),
            ((CLOSE, 0), [1]), ((WHERE, 0), [1, 8]),
        ])

    def test_of_two_as_near_the_lesser(self):
        self.check([
            (PLAIN, [0]), ((STOP, 9, 9), [0]), ((STOP, 3, 0), [1]), ((STOP, -3, 0), [2]), ((STOP, 0, 3), [3]),
            ((PUPIL, 0, 0), [0]), ((WHERE, 0), [1, 3]), ((AT, 1), [1, 0]), ((AT, 2), [0]), ((AT, 3), [0]),
            ((CLOSE, 1), [1]), ((WHERE, 0), [2, 3]), ((CLOSE, 2), [1]), ((WHERE, 0), [3, 3]),
        ])

    def test_just_as_far_as_one_walks(self):
        self.check([
            (PLAIN, [0]), ((STOP, 0, 0), [0]), ((PUPIL, 4, 6), [0]), ((PUPIL, 4, 7), [1]), ((PUPIL, -10, 0), [2]),
            ((PUPIL, 0, -11), [3]),
            ((WHERE, 0), [0, 10]), ((WHERE, 1), CANNOT_BE), ((WHERE, 2), [0, 10]), ((WHERE, 3), CANNOT_BE),
        ])

    def test_closed_ones_do_not_count(self):
        self.check([
            (PLAIN, [0]), ((STOP, 0, 0), [0]), ((PUPIL, 0, 0), [0]), ((CLOSE, 0), [1]), ((WHERE, 0), CANNOT_BE),
        ])

    def test_no_stop_at_all(self):
        self.check([(PLAIN, [0]), ((PUPIL, 0, 0), [0]), ((WHERE, 0), CANNOT_BE)])

    def test_one_who_is_away_is_told_too(self):
        self.check([
            (PLAIN, [0]), ((STOP, 0, 0), [0]), ((PUPIL, 2, 0), [0]), ((PUPIL, 20, 0), [1]), ((AWAY, 0), [0]),
            ((AWAY, 1), [0]), ((WHERE, 0), [0, 2]), ((WHERE, 1), CANNOT_BE),
        ])

    def test_no_such_pupil(self):
        before = [PLAIN, (STOP, 0, 0), (STOP, 0, 0), (PUPIL, 0, 0)]
        for p in (1, 20, MOST_WHOLE):
            self.check_refused(before, (WHERE, p), NO_SUCH)

    def test_a_refusal_for_lack_of_a_stop_changes_nothing(self):
        self.check_refused([PLAIN, (STOP, 0, 0), (PUPIL, 50, 0)], (WHERE, 0), CANNOT_BE)


class At(BusTest):
    def test_these_rising(self):
        self.check([
            (PLAIN, [0]), ((STOP, 0, 0), [0]), ((STOP, 100, 0), [1]), ((PUPIL, 9, 0), [0]), ((PUPIL, 100, 0), [1]),
            ((PUPIL, 1, 0), [2]), ((PUPIL, 5, 0), [3]), ((AT, 0), [3, 0, 2, 3]), ((AT, 1), [1, 1]),
        ])

    def test_all_away(self):
        self.check([
            (PLAIN, [0]), ((STOP, 0, 0), [0]), ((PUPIL, 1, 0), [0]), ((PUPIL, 2, 0), [1]), ((AWAY, 0), [0]),
            ((AWAY, 1), [0]), ((AT, 0), [0]), ((COMES, 1), [0]), ((AT, 0), [1, 1]),
        ])

    def test_nobody_is_at_a_closed_one(self):
        self.check([
            (PLAIN, [0]), ((STOP, 0, 0), [0]), ((STOP, 5, 0), [1]), ((PUPIL, 0, 0), [0]), ((CLOSE, 0), [1]),
            ((AT, 0), [0]), ((AT, 1), [1, 0]),
        ])

    def test_the_order_does_not_matter(self):
        self.check([
            (PLAIN, [0]), ((STOP, 0, 0), [0]), ((PUPIL, 0, 0), [0]), ((AT, 0), [1, 0]), ((ROUTE, [0]), [1]),
            ((AT, 0), [1, 0]),
        ])

    def test_all_twenty(self):
        calls = [PLAIN, (STOP, 0, 0)] + [(PUPIL, 0, k - 10) for k in range(20)] + [(AT, 0)]
        self.check_last(calls, [20] + list(range(20)))

    def test_no_such_stop(self):
        before = [PLAIN, (STOP, 0, 0), (PUPIL, 0, 0), (PUPIL, 0, 0)]
        for s in (1, 10, MOST_WHOLE):
            self.check_refused(before, (AT, s), NO_SUCH)


class Unreached(BusTest):
    def test_nobody(self):
        self.check([(PLAIN, [0]), ((UNREACHED,), [0]), ((STOP, 0, 0), [0]), ((PUPIL, 1, 0), [0]), ((UNREACHED,), [0])])

    def test_those_there_with_no_stop(self):
        self.check([
            (PLAIN, [0]), ((STOP, 0, 0), [0]), ((PUPIL, 20, 0), [0]), ((PUPIL, 1, 0), [1]), ((PUPIL, 30, 0), [2]),
            ((PUPIL, 40, 0), [3]), ((AWAY, 2), [0]), ((UNREACHED,), [2, 0, 3]), ((CLOSE, 0), [1]),
            ((UNREACHED,), [3, 0, 1, 3]), ((COMES, 2), [0]), ((UNREACHED,), [4, 0, 1, 2, 3]),
        ])

    def test_a_pupil_whom_nobody_reaches(self):
        self.check([
            (PLAIN, [0]), ((STOP, 0, 0), [0]), ((PUPIL, 11, 0), [0]), ((PUPIL, 10, 0), [1]), ((WHERE, 0), CANNOT_BE),
            ((UNREACHED,), [1, 0]), ((UNSERVED,), [1, 1]), ((TAKE,), [1]), ((UNREACHED,), [1, 0]), ((UNSERVED,), [0]),
        ])


class Unserved(BusTest):
    def test_nobody(self):
        self.check([(PLAIN, [0]), ((UNSERVED,), [0]), ((PUPIL, 1, 0), [0]), ((UNSERVED,), [0])])

    def test_those_there_with_a_stop_outside_the_order(self):
        self.check([
            (PLAIN, [0]), ((STOP, 0, 0), [0]), ((STOP, 50, 0), [1]), ((PUPIL, 51, 0), [0]), ((PUPIL, 1, 0), [1]),
            ((PUPIL, 52, 0), [2]), ((PUPIL, 500, 0), [3]), ((PUPIL, 53, 0), [4]), ((AWAY, 2), [0]),
            ((UNSERVED,), [3, 0, 1, 4]), ((ROUTE, [0]), [1]), ((UNSERVED,), [2, 0, 4]),
            ((ROUTE, [1]), [1]), ((UNSERVED,), [1, 1]), ((ROUTE, [1, 0]), [2]), ((UNSERVED,), [0]),
            ((ROUTE, []), [0]), ((UNSERVED,), [3, 0, 1, 4]), ((TAKE,), [2]), ((UNSERVED,), [0]),
        ])

    def test_a_stop_in_the_order_that_is_closed(self):
        # Whoever was at it goes to another one, which is not in the order.
        self.check([
            (PLAIN, [0]), ((STOP, 0, 0), [0]), ((STOP, 5, 0), [1]), ((PUPIL, 0, 0), [0]), ((ROUTE, [0]), [1]),
            ((UNSERVED,), [0]), ((CLOSE, 0), [1]), ((UNSERVED,), [1, 0]),
        ])

    def test_a_nearer_stop_more_leaves_one_unserved(self):
        self.check([
            (PLAIN, [0]), ((STOP, 5, 0), [0]), ((PUPIL, 0, 0), [0]), ((TAKE,), [1]), ((UNSERVED,), [0]),
            ((STOP, 1, 0), [1]), ((UNSERVED,), [1, 0]),
        ])
