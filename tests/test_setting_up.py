"""Point 1: rule, stop, open, close, pupil, moves, away, comes."""

from tests.helper import (
    ALREADY_SO, AT, AWAY, BEGIN, BusTest, CANNOT_BE, CLOSE, COMES, CORNERS, MOST_WHOLE, MOVES, NO_SUCH, NOT_PLACES,
    OPEN, OUT_OF_RANGE, PLAIN, PUPIL, ROUTE, RULE, STOP, TOO_MANY, UNREACHED, UNSERVED, WHERE, line_after, order_after,
)

TEN_STOPS = [(STOP, 10 * k, 0) for k in range(10)]
TWENTY_PUPILS = [(PUPIL, k, 0) for k in range(20)]


class Rule(BusTest):
    def rule_after(self, calls):
        bus = line_after([PLAIN] + calls).bus
        return bus.halt, bus.each, bus.limit

    def test_it_is_kept(self):
        self.check([(PLAIN, [0]), ((RULE, 3, 4, 500), [0])])
        self.assertEqual(self.rule_after([(RULE, 3, 4, 500)]), (3, 4, 500))
        self.assertEqual(self.rule_after([(RULE, 3, 4, 500), (RULE, 0, 0, 0)]), (0, 0, 0))

    def test_edges(self):
        self.check([(PLAIN, [0]), ((RULE, 100, 100, 10000), [0]), ((RULE, 0, 0, 0), [0])])
        self.assertEqual(self.rule_after([(RULE, 100, 100, 10000)]), (100, 100, 10000))

    def test_out_of_range(self):
        for wrong in [(101, 0, 0), (0, 101, 0), (0, 0, 10001), (MOST_WHOLE, 0, 0), (0, MOST_WHOLE, 0),
                      (0, 0, MOST_WHOLE), (101, 101, 10001)]:
            self.check_refused([PLAIN, (RULE, 3, 4, 500)], (RULE,) + wrong, OUT_OF_RANGE)


class AddStop(BusTest):
    def test_numbered_from_0_and_open(self):
        self.check([
            (PLAIN, [0]), ((STOP, 5, 6), [0]), ((STOP, 5, 6), [1]), ((STOP, 0, -7), [2]),
            ((OPEN, 0), ALREADY_SO), ((OPEN, 1), ALREADY_SO), ((OPEN, 2), ALREADY_SO), ((OPEN, 3), NO_SUCH),
            ((PUPIL, 1, -7), [0]), ((WHERE, 0), [2, 1]),
        ])

    def test_corners(self):
        for x, y in CORNERS:
            self.check([(PLAIN, [0]), ((STOP, x, y), [0]), ((PUPIL, x, y), [0]), ((WHERE, 0), [0, 0])])

    def test_out_of_range(self):
        for x, y in NOT_PLACES:
            self.check_refused([PLAIN, (STOP, 1, 1)], (STOP, x, y), OUT_OF_RANGE)

    def test_the_tenth_and_the_eleventh(self):
        self.check_last([PLAIN] + TEN_STOPS, [9])
        self.check_refused([PLAIN] + TEN_STOPS, (STOP, 0, 0), TOO_MANY)

    def test_closed_ones_count_too(self):
        self.check_refused([PLAIN] + TEN_STOPS + [(CLOSE, 3)], (STOP, 0, 0), TOO_MANY)

    def test_out_of_range_ahead_of_too_many(self):
        for x, y in NOT_PLACES:
            self.check_refused([PLAIN] + TEN_STOPS, (STOP, x, y), OUT_OF_RANGE)

    def test_it_is_not_in_the_order(self):
        self.check([(PLAIN, [0]), ((PUPIL, 0, 0), [0]), ((STOP, 0, 0), [0]), ((UNSERVED,), [1, 0])])


class OpenAndClose(BusTest):
    def test_closed_and_opened_again(self):
        self.check([
            (PLAIN, [0]), ((STOP, 1, 0), [0]), ((STOP, 3, 0), [1]), ((PUPIL, 0, 0), [0]), ((WHERE, 0), [0, 1]),
            ((CLOSE, 0), [1]), ((WHERE, 0), [1, 3]), ((CLOSE, 0), ALREADY_SO),
            ((OPEN, 0), [0]), ((WHERE, 0), [0, 1]), ((OPEN, 0), ALREADY_SO),
        ])

    def test_how_many_were_at_it(self):
        self.check([
            (PLAIN, [0]), ((STOP, 0, 0), [0]), ((STOP, 8, 0), [1]), ((STOP, 500, 0), [2]),
            ((PUPIL, 1, 0), [0]), ((PUPIL, 2, 0), [1]), ((PUPIL, 7, 0), [2]), ((PUPIL, 3, 0), [3]), ((AWAY, 1), [0]),
            ((PUPIL, 900, 0), [4]),
            ((CLOSE, 2), [0]), ((CLOSE, 0), [2]), ((CLOSE, 1), [3]),
        ])

    def test_closed_with_all_away(self):
        self.check([(PLAIN, [0]), ((STOP, 0, 0), [0]), ((PUPIL, 1, 0), [0]), ((AWAY, 0), [0]), ((CLOSE, 0), [0])])

    def test_refused(self):
        before = [PLAIN, (STOP, 0, 0), (STOP, 0, 0), (CLOSE, 1)]
        self.check_refused(before, (OPEN, 0), ALREADY_SO)
        self.check_refused(before, (CLOSE, 1), ALREADY_SO)
        for s in (2, 9, 255, MOST_WHOLE):
            self.check_refused(before, (OPEN, s), NO_SUCH)
            self.check_refused(before, (CLOSE, s), NO_SUCH)

    def test_a_pupil_is_no_stop(self):
        self.check_refused([PLAIN, (PUPIL, 0, 0)], (OPEN, 0), NO_SUCH)
        self.check_refused([PLAIN, (PUPIL, 0, 0)], (CLOSE, 0), NO_SUCH)

    def test_closing_takes_it_out_of_the_order(self):
        before = [PLAIN, (STOP, 0, 0), (STOP, 1, 0), (STOP, 2, 0), (ROUTE, [2, 0, 1])]
        self.assertEqual(order_after(before + [(CLOSE, 0)]), [2, 1])
        self.assertEqual(order_after(before + [(CLOSE, 2)]), [0, 1])
        self.assertEqual(order_after(before + [(CLOSE, 1), (CLOSE, 2)]), [0])

    def test_opening_does_not_put_it_back_in_the_order(self):
        before = [PLAIN, (STOP, 0, 0), (STOP, 1, 0), (ROUTE, [1, 0])]
        self.assertEqual(order_after(before + [(CLOSE, 1), (OPEN, 1)]), [0])
        self.check([
            (PLAIN, [0]), ((STOP, 0, 0), [0]), ((PUPIL, 0, 0), [0]), ((ROUTE, [0]), [1]), ((UNSERVED,), [0]),
            ((CLOSE, 0), [1]), ((UNSERVED,), [0]), ((UNREACHED,), [1, 0]),
            ((OPEN, 0), [0]), ((UNSERVED,), [1, 0]), ((UNREACHED,), [0]),
        ])

    def test_closing_one_outside_the_order_leaves_it(self):
        self.assertEqual(order_after([PLAIN, (STOP, 0, 0), (STOP, 1, 0), (ROUTE, [0]), (CLOSE, 1)]), [0])


class AddPupil(BusTest):
    def test_numbered_from_0_and_there(self):
        self.check([
            (PLAIN, [0]), ((PUPIL, 1, 2), [0]), ((PUPIL, 1, 2), [1]), ((PUPIL, 3, 4), [2]),
            ((COMES, 0), ALREADY_SO), ((COMES, 2), ALREADY_SO), ((COMES, 3), NO_SUCH),
            ((UNREACHED,), [3, 0, 1, 2]), ((STOP, 3, 2), [0]), ((WHERE, 2), [0, 2]), ((WHERE, 0), [0, 2]),
        ])

    def test_corners(self):
        for x, y in CORNERS:
            self.check([(PLAIN, [0]), ((PUPIL, x, y), [0])])

    def test_out_of_range(self):
        for x, y in NOT_PLACES:
            self.check_refused([PLAIN, (PUPIL, 1, 1)], (PUPIL, x, y), OUT_OF_RANGE)

    def test_the_twentieth_and_the_twenty_first(self):
        self.check_last([PLAIN] + TWENTY_PUPILS, [19])
        self.check_refused([PLAIN] + TWENTY_PUPILS, (PUPIL, 0, 0), TOO_MANY)

    def test_those_who_are_away_count_too(self):
        self.check_refused([PLAIN] + TWENTY_PUPILS + [(AWAY, 4)], (PUPIL, 0, 0), TOO_MANY)

    def test_out_of_range_ahead_of_too_many(self):
        for x, y in NOT_PLACES:
            self.check_refused([PLAIN] + TWENTY_PUPILS, (PUPIL, x, y), OUT_OF_RANGE)


class Moves(BusTest):
    def test_the_home_is_there(self):
        self.check([
            (PLAIN, [0]), ((STOP, 0, 0), [0]), ((STOP, 100, 0), [1]), ((PUPIL, 1, 2), [0]), ((PUPIL, 0, 0), [1]),
            ((WHERE, 0), [0, 3]), ((MOVES, 0, 99, 1), [0]), ((WHERE, 0), [1, 2]), ((WHERE, 1), [0, 0]),
            ((MOVES, 0, 50, 0), [0]), ((WHERE, 0), CANNOT_BE),
        ])

    def test_corners(self):
        for x, y in CORNERS:
            self.check([(PLAIN, [0]), ((PUPIL, 0, 0), [0]), ((MOVES, 0, x, y), [0]), ((STOP, x, y), [0]),
                        ((WHERE, 0), [0, 0])])

    def test_one_who_is_away_stays_away(self):
        self.check([
            (PLAIN, [0]), ((STOP, 0, 0), [0]), ((PUPIL, 500, 0), [0]), ((AWAY, 0), [0]), ((MOVES, 0, 1, 0), [0]),
            ((AWAY, 0), ALREADY_SO), ((AT, 0), [0]), ((WHERE, 0), [0, 1]),
        ])

    def test_refused(self):
        before = [PLAIN, (STOP, 0, 0), (STOP, 0, 0), (PUPIL, 3, 3)]
        for p in (1, 20, MOST_WHOLE):
            self.check_refused(before, (MOVES, p, 0, 0), NO_SUCH)
        for x, y in NOT_PLACES:
            self.check_refused(before, (MOVES, 0, x, y), OUT_OF_RANGE)

    def test_no_such_ahead_of_out_of_range(self):
        for x, y in NOT_PLACES:
            self.check_refused([PLAIN, (PUPIL, 3, 3)], (MOVES, 1, x, y), NO_SUCH)


class AwayAndComes(BusTest):
    def test_away_and_back(self):
        self.check([
            (PLAIN, [0]), ((STOP, 0, 0), [0]), ((PUPIL, 1, 0), [0]), ((PUPIL, 2, 0), [1]), ((AT, 0), [2, 0, 1]),
            ((AWAY, 0), [0]), ((AT, 0), [1, 1]), ((AWAY, 0), ALREADY_SO),
            ((COMES, 0), [0]), ((AT, 0), [2, 0, 1]), ((COMES, 0), ALREADY_SO),
        ])

    def test_refused(self):
        before = [PLAIN, (STOP, 0, 0), (STOP, 0, 0), (STOP, 0, 0), (PUPIL, 1, 0), (PUPIL, 2, 0), (AWAY, 1)]
        self.check_refused(before, (AWAY, 1), ALREADY_SO)
        self.check_refused(before, (COMES, 0), ALREADY_SO)
        for p in (2, 19, MOST_WHOLE):
            self.check_refused(before, (AWAY, p), NO_SUCH)
            self.check_refused(before, (COMES, p), NO_SUCH)

    def test_the_order_stays(self):
        before = [PLAIN, (STOP, 0, 0), (STOP, 1, 0), (PUPIL, 0, 0), (ROUTE, [1, 0])]
        self.assertEqual(order_after(before + [(AWAY, 0)]), [1, 0])
        self.assertEqual(order_after(before + [(AWAY, 0), (COMES, 0)]), [1, 0])
        self.assertEqual(order_after(before + [(MOVES, 0, 900, 900)]), [1, 0])


class WalkEdge(BusTest):
    def test_the_furthest_walk(self):
        for walk, wanted in ((1000, [0, 1000]), (999, CANNOT_BE)):
            self.check([((BEGIN, 0, 0, 0, 0, walk, 1), [0]), ((STOP, 600, 0), [0]), ((PUPIL, 0, -400), [0]),
                        ((WHERE, 0), wanted)])

    def test_nobody_walks(self):
        self.check([((BEGIN, 0, 0, 0, 0, 0, 1), [0]), ((STOP, 5, 5), [0]), ((PUPIL, 5, 5), [0]), ((PUPIL, 5, 6), [1]),
                    ((WHERE, 0), [0, 0]), ((WHERE, 1), CANNOT_BE)])
