"""How calls are handed in and answers given back."""

import inspect

from schoolbus.stops import answers
from tests.helper import BusTest, handed, PLAIN, PUPIL, ROUTE, STOP, TAKE, UNREACHED, UNSERVED, AT, WHERE, CLOSE, AWAY

LINE = [
    PLAIN, (STOP, 30, 0), (STOP, 10, 0), (STOP, 2000, 0), (PUPIL, 11, 0), (PUPIL, 29, 0), (ROUTE, [1, 0]),
    (ROUTE, [0, 0]), (AT, 0), (WHERE, 1), (TAKE,), (AWAY, 0), (CLOSE, 0), (UNREACHED,), (UNSERVED,),
]
TOLD = [
    1, 0, 1, 0, 1, 1, 1, -22, 1, 0, 1, 1, 1, 2,
    1, -22, 2, 1, 1, 2, 0, 1, 1, 2, 1, 0, 1, 1, 2, 1, 1, 1, 0,
]


class Interface(BusTest):
    def test_its_argument(self):
        self.assertEqual(list(inspect.signature(answers).parameters), ["calls"])

    def test_counts_and_answers_in_one_list(self):
        self.assertEqual(answers(handed(LINE)), TOLD)

    def test_written_out(self):
        self.assertEqual(answers([14]), [1, -11])
        self.assertEqual(answers([0, 0, 0, 0, 0, 10, 5]), [1, 0])
        self.assertEqual(
            answers([0, 0, 0, 0, 0, 10, 5, 2, 3, 4, 5, 0, 0, 9, 1, 0, 11, 0, 9, 0, 14]),
            [1, 0, 1, 0, 1, 0, 1, 1, 2, 0, 7, 1, 0, 2, 1, 0],
        )

    def test_whole_numbers_in_a_list(self):
        told = answers(handed(LINE))
        self.assertIs(type(told), list)
        self.assertEqual({type(number) for number in told}, {int})

    def test_what_is_handed_in_stays(self):
        line = handed(LINE)
        answers(line)
        self.assertEqual(line, handed(LINE))

    def test_what_is_given_back_is_new(self):
        line = handed(LINE)
        first = answers(line)
        first.clear()
        self.assertEqual(answers(line), TOLD)

    def test_nothing_is_kept(self):
        line = handed(LINE)
        self.assertEqual(answers(line), answers(line))
        answers(handed([PLAIN, (STOP, 0, 0), (PUPIL, 0, 0), (ROUTE, [0])]))
        self.assertEqual(answers(handed([(UNSERVED,)])), [1, -11])
        self.assertEqual(answers(line), TOLD)

    def test_256_calls(self):
        calls = [PLAIN, (STOP, 0, 0), (PUPIL, 0, 0)] + [(TAKE,), (AT, 0)] * 126 + [(UNSERVED,)]
        self.assertEqual(answers(handed(calls)), [1, 0, 1, 0, 1, 0] + [1, 1, 2, 1, 0] * 126 + [1, 0])

    def test_a_list_of_nearly_20000_numbers(self):
        calls = [PLAIN] + [(ROUTE, [255] * 100)] * 195 + [(STOP, 0, 0)] * 10
        self.assertLessEqual(len(handed(calls)), 20000)
        self.assertEqual(answers(handed(calls))[-20:], [1, 0, 1, 1, 1, 2, 1, 3, 1, 4, 1, 5, 1, 6, 1, 7, 1, 8, 1, 9])
