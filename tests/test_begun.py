"""Before a begin that answers 0; a begin that is refused; a second begin."""

from tests.helper import (
    AT, AWAY, BEGIN, BEST, BusTest, CLOSE, COMES, CORNERS, EVENING, FEWEST, FULL, LATEST, LOADS, LONGEST, MORNING,
    MOST_INT, MOST_WHOLE, MOVES, NO_SUCH, NOT_BEGUN, NOT_PLACES, OPEN, ORDER, OUT_OF_RANGE, PLAIN, PUPIL, REACH, RIDE,
    ROUTE, RULE, SPARE, STATE, STOP, TAKE, TOOLONG, UNREACHED, UNSERVED, WALKS, WHERE, ask, line_after, picture,
)

ALL_BUT_BEGIN = [
    (RULE, 1, 2, 3), (STOP, 0, 0), (OPEN, 0), (CLOSE, 0), (PUPIL, 0, 0), (MOVES, 0, 0, 0), (AWAY, 0), (COMES, 0),
    (ROUTE, []), (ROUTE, [0]), (ROUTE, [1, 1, 255]), (TAKE,), (WHERE, 0), (AT, 0), (UNREACHED,), (UNSERVED,),
    (MORNING, 0), (EVENING, 0), (LATEST, 0), (RIDE, 0), (LONGEST,), (TOOLONG,), (LOADS,), (FULL,), (BEST,), (FEWEST,),
    (SPARE,), (WALKS,), (REACH, 0, 0), (ORDER,), (STATE,),
    (RULE, 101, 0, 0), (STOP, 1001, 0), (PUPIL, 0, -1001), (MOVES, MOST_WHOLE, MOST_INT, 0),
    (MORNING, 100001), (EVENING, MOST_WHOLE), (LATEST, 100001), (RIDE, MOST_WHOLE), (REACH, 1001, 0),
]

REFUSED_BEGINS = (
    [(BEGIN, x, y, 0, 0, 10, 5) for x, y in NOT_PLACES]
    + [(BEGIN, 0, 0, x, y, 10, 5) for x, y in NOT_PLACES]
    + [(BEGIN, 0, 0, 0, 0, walk, 5) for walk in (1001, MOST_WHOLE)]
    + [(BEGIN, 0, 0, 0, 0, 10, seats) for seats in (0, 61, MOST_WHOLE)]
    + [(BEGIN, 1001, 0, 0, -1001, 1001, 0)]
)


class BeforeBegin(BusTest):
    def test_every_other_call(self):
        for call in ALL_BUT_BEGIN:
            self.check([(call, NOT_BEGUN)])

    def test_all_in_one_line_and_they_leave_nothing(self):
        self.check([(call, NOT_BEGUN) for call in ALL_BUT_BEGIN] + [
            (PLAIN, [0]), ((UNREACHED,), [0]), ((AT, 0), NO_SUCH), ((WHERE, 0), NO_SUCH),
            ((STATE,), [0, 0, 0, 0, 0, 0, 0]), ((ORDER,), [0, 0]),
        ])

    def test_each_call_is_among_them(self):
        self.assertEqual({call[0] for call in ALL_BUT_BEGIN}, set(range(1, 30)))

    def test_a_refused_begin_begins_nothing(self):
        for refused in REFUSED_BEGINS:
            self.check([(refused, OUT_OF_RANGE)] + [(call, NOT_BEGUN) for call in ALL_BUT_BEGIN])

    def test_a_begin_behind_a_refused_one(self):
        self.check([(REFUSED_BEGINS[0], OUT_OF_RANGE), (PLAIN, [0]), ((STOP, 0, 0), [0])])


class Begin(BusTest):
    def test_it_keeps_what_it_is_told(self):
        bus = line_after([(BEGIN, 1, 2, 3, 4, 50, 6)]).bus
        self.assertEqual((bus.school, bus.garage, bus.walk, bus.seats), ((1, 2), (3, 4), 50, 6))
        self.assertEqual((bus.halt, bus.each, bus.limit), (0, 0, 10000))
        self.assertEqual((bus.stops, bus.pupils, bus.order), ([], [], []))

    def test_edges_that_are_taken(self):
        for x, y in CORNERS:
            self.check([((BEGIN, x, y, 0, 0, 10, 5), [0])])
            self.check([((BEGIN, 0, 0, x, y, 10, 5), [0])])
        for walk in (0, 1, 999, 1000):
            self.check([((BEGIN, 0, 0, 0, 0, walk, 5), [0])])
        for seats in (1, 2, 59, 60):
            self.check([((BEGIN, 0, 0, 0, 0, 10, seats), [0])])

    def test_a_refused_one_leaves_all(self):
        before = [PLAIN, (RULE, 1, 2, 3), (STOP, 1, 1), (PUPIL, 2, 2), (ROUTE, [0])]
        for refused in REFUSED_BEGINS:
            self.check_refused(before, refused, OUT_OF_RANGE)

    def test_a_second_one_leaves_nothing_else(self):
        before = [PLAIN, (RULE, 1, 2, 3), (STOP, 1, 1), (STOP, 2, 2), (PUPIL, 2, 2), (AWAY, 0), (ROUTE, [1, 0])]
        second = (BEGIN, 7, 8, 9, 10, 20, 30)
        self.assertEqual(picture(line_after(before + [second])), picture(line_after([second])))
        after = [(AT, 0), (WHERE, 0), (OPEN, 0), (ROUTE, [0]), (COMES, 0), (UNREACHED,), (UNSERVED,), (STOP, 0, 0),
                 (PUPIL, 0, 0), (UNSERVED,)]
        self.assertEqual(
            ask(before + [second] + after)[len(before):],
            [[0], [-2], [-2], [-2], [-2], [-2], [0], [0], [0], [0], [1, 0]],
        )

    def test_a_second_one_makes_room_again(self):
        full = [PLAIN] + [(STOP, 0, 0)] * 10 + [(PUPIL, 0, 0)] * 20
        self.assertEqual(ask(full + [PLAIN, (STOP, 0, 0), (PUPIL, 0, 0)])[-3:], [[0], [0], [0]])

    def test_a_second_one_brings_its_own_walk(self):
        self.check([
            (PLAIN, [0]), ((BEGIN, 0, 0, 0, 0, 3, 5), [0]), ((STOP, 4, 0), [0]), ((PUPIL, 0, 0), [0]),
            ((WHERE, 0), [-33]),
        ])
