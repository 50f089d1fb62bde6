"""How calls are handed in and answers given back."""

import inspect
import time

from schoolbus.stops import answers
from tests.helper import (
    AT, AWAY, BEGIN, BEST, BusTest, CLOSE, COMES, EVENING, FEWEST, FULL, LATEST, LOADS, LONGEST, LOOKING, MORNING,
    MOST_INT, MOST_WHOLE, MOVES, Maker, ORDER, PLAIN, PUPIL, REACH, RIDE, ROUTE, RULE, SPARE, STATE, STOP, TAKE,
    TOOLONG, UNREACHED, UNSERVED, WALKS, WHERE, ask, handed, line_after, do, picture,
)

LINE = [
    PLAIN, (STOP, 30, 0), (STOP, 10, 0), (STOP, 2000, 0), (PUPIL, 11, 0), (PUPIL, 29, 0), (ROUTE, [1, 0]),
    (ROUTE, [0, 0]), (AT, 0), (WHERE, 1), (TAKE,), (MORNING, 5), (EVENING, 100001), (EVENING, 6), (LATEST, 100),
    (RIDE, 1), (LONGEST,), (TOOLONG,), (LOADS,), (FULL,), (BEST,), (FEWEST,), (SPARE,), (WALKS,), (REACH, 20, 0),
    (ORDER,), (STATE,), (AWAY, 0), (CLOSE, 0), (UNREACHED,), (UNSERVED,),
]
TOLD = [
    1, 0, 1, 0, 1, 1, 1, -22, 1, 0, 1, 1, 1, 2,
    1, -22, 2, 1, 1, 2, 0, 1, 1, 2, 6, 2, 0, 35, 1, 55, 65, 1, -22, 6, 2, 1, 16, 0, 36, 66, 1, 40,
    1, 30, 2, 1, 30, 1, 0, 3, 2, 1, 2, 1, -6, 3, 60, 0, 1, 3, 2, 0, 1, 1, 0, 3, 2, 2, 1, 2, 2, 0,
    4, 2, 0, 1, 60, 7, 0, 2, 2, 2, 2, 2, 60, 1, 0, 1, 1, 2, 1, 1, 1, 0,
]

# As much as there can be: each stop is needed by two, so that the fewest are found last.
FULL_BUS = [(BEGIN, 0, 0, 5, 5, 40, 9)] + [(STOP, 90 * k, 0) for k in range(10)]
FULL_BUS = FULL_BUS + [(PUPIL, 90 * (k // 2), 1) for k in range(20)] + [(RULE, 3, 2, 900), (ROUTE, list(range(10)))]
# Each stop is within everybody's walk, and somebody is at six.
SIX_STOPS = [(BEGIN, 0, 0, 5, 5, 1000, 9)] + [(STOP, 90 * (k % 6), k // 6) for k in range(10)]
SIX_STOPS = SIX_STOPS + [(PUPIL, 90 * (k % 6), 0) for k in range(20)] + [(ROUTE, list(range(10)))]

LOOKS = [
    (WHERE, 3), (AT, 3), (UNREACHED,), (UNSERVED,), (MORNING, 100000), (EVENING, 0), (LATEST, 100000), (RIDE, 19),
    (LONGEST,), (TOOLONG,), (LOADS,), (FULL,), (BEST,), (FEWEST,), (SPARE,), (WALKS,), (REACH, 0, 0), (ORDER,),
    (STATE,),
]


class Interface(BusTest):
    def test_its_argument(self):
        self.assertEqual(list(inspect.signature(answers).parameters), ["calls"])

    def test_counts_and_answers_in_one_list(self):
        self.assertEqual(answers(handed(LINE)), TOLD)

    def test_written_out(self):
        self.assertEqual(answers([14]), [1, -11])
        self.assertEqual(answers([29]), [1, -11])
        self.assertEqual(answers([0, 0, 0, 0, 0, 10, 5]), [1, 0])
        self.assertEqual(
            answers([0, 0, 0, 0, 0, 10, 5, 2, 3, 4, 5, 0, 0, 9, 1, 0, 11, 0, 9, 0, 14]),
            [1, 0, 1, 0, 1, 0, 1, 1, 2, 0, 7, 1, 0, 2, 1, 0],
        )

    def test_each_look_written_out(self):
        # The garage at 10, 0, school at 0, 0, a stop at 4, 0 with one pupil, who walks 1; halt 2, each 3, limit 8.
        bus = [0, 0, 0, 10, 0, 5, 1, 1, 2, 3, 8, 2, 4, 0, 5, 4, 1, 9, 1, 0]
        for call, told in (
            ([11, 0], [2, 0, 1]), ([12, 0], [2, 1, 0]), ([13], [1, 0]), ([14], [1, 0]),
            ([15, 1], [4, 1, 0, 7, 16]), ([16, 1], [4, 1, 0, 5, 16]), ([17, 20], [1, 5]), ([18, 0], [1, 9]),
            ([19], [2, 0, 9]), ([20], [2, 1, 0]), ([21], [2, 1, 1]), ([22], [1, -6]), ([23], [2, 10, 0]),
            ([24], [2, 1, 0]), ([25], [1, 0]), ([26], [3, 1, 1, 1]), ([27, 9, 0], [2, 0, 0]), ([28], [3, 1, 0, 10]),
            ([29], [7, 0, 1, 1, 1, 1, 1, 15]),
        ):
            # Read on rightly behind it, too.
            self.assertEqual(answers(bus + call + [28])[10:], told + [3, 1, 0, 10], call)

    def test_whole_numbers_in_a_list(self):
        for line in [LINE, FULL_BUS + LOOKS, SIX_STOPS + LOOKS] + [Maker(seed).line(100) for seed in range(20)]:
            told = answers(handed(line))
            self.assertIs(type(told), list)
            self.assertEqual({type(number) for number in told}, {int})

    def test_what_is_handed_in_stays(self):
        for calls in (LINE, FULL_BUS + LOOKS, SIX_STOPS + LOOKS):
            line = handed(calls)
            answers(line)
            self.assertEqual(line, handed(calls))

    def test_behind_a_begin_no_call_raises(self):
        # Any value of its kind, and nothing there that it could be of.
        wide = [(RULE, MOST_WHOLE, MOST_WHOLE, MOST_WHOLE), (STOP, MOST_INT, MOST_INT), (AT, MOST_WHOLE),
                (MOVES, MOST_WHOLE, -MOST_INT - 1, MOST_INT), (ROUTE, [255] * 100), (WHERE, MOST_WHOLE),
                (MORNING, MOST_WHOLE), (EVENING, MOST_WHOLE), (LATEST, MOST_WHOLE), (RIDE, MOST_WHOLE),
                (REACH, -MOST_INT - 1, MOST_INT)]
        for base in ([PLAIN], FULL_BUS, SIX_STOPS):
            for call in wide:
                self.assertLess(ask(base + [call])[-1][0], 0, call)
            self.assertEqual(len(ask(base + LOOKS)), len(base + LOOKS))

    def test_each_look_changes_nothing(self):
        self.assertEqual([call[0] for call in LOOKS], list(LOOKING))
        for base in ([PLAIN], FULL_BUS, SIX_STOPS):
            alone = [ask(base + [call])[-1] for call in LOOKS]
            self.assertEqual(ask(base + LOOKS + LOOKS)[len(base):], alone + alone)
            line = line_after(base)
            before = picture(line)
            for call in LOOKS:
                do(line, call)
                self.assertEqual(picture(line), before, call)

    def test_what_is_given_back_is_new(self):
        line = handed(LINE)
        first = answers(line)
        first.clear()
        self.assertEqual(answers(line), TOLD)

    def test_nothing_is_kept(self):
        line = handed(LINE)
        self.assertEqual(answers(line), answers(line))
        for calls in (FULL_BUS + LOOKS, SIX_STOPS + LOOKS):
            self.assertEqual(answers(handed(calls)), answers(handed(calls)))
        answers(handed([PLAIN, (STOP, 0, 0), (PUPIL, 0, 0), (ROUTE, [0])]))
        self.assertEqual(answers(handed([(UNSERVED,)])), [1, -11])
        self.assertEqual(answers(line), TOLD)

    def test_256_calls(self):
        calls = [PLAIN, (STOP, 0, 0), (PUPIL, 0, 0)] + [(TAKE,), (AT, 0)] * 126 + [(UNSERVED,)]
        self.assertEqual(answers(handed(calls)), [1, 0, 1, 0, 1, 0] + [1, 1, 2, 1, 0] * 126 + [1, 0])

    def test_256_calls_on_a_full_bus_can_be_waited_for(self):
        changing = [(AWAY, 3), (MOVES, 5, 0, 30), (COMES, 3), (MOVES, 5, 180, 1)]
        for base in (FULL_BUS, SIX_STOPS):
            for calls in [base + (LOOKS + changing + [(TAKE,)]) * 10] + [base + [call] * 256 for call in LOOKS]:
                line = handed(calls[:256])
                start = time.monotonic()
                self.assertEqual(len(ask(calls[:256])), 256)
                self.assertLess(time.monotonic() - start, 20, calls[-1])
                self.assertLessEqual(len(line), 20000)

    def test_a_list_of_nearly_20000_numbers(self):
        calls = [PLAIN] + [(ROUTE, [255] * 100)] * 195 + [(STOP, 0, 0)] * 10
        self.assertLessEqual(len(handed(calls)), 20000)
        self.assertEqual(answers(handed(calls))[-20:], [1, 0, 1, 1, 1, 2, 1, 3, 1, 4, 1, 5, 1, 6, 1, 7, 1, 8, 1, 9])
