"""What the tests share: the calls' numbers, handing them in, and looking at what the bus is like afterwards."""

import random
import unittest

from schoolbus.bus import Line
from schoolbus.stops import answer, answers

(BEGIN, RULE, STOP, OPEN, CLOSE, PUPIL, MOVES, AWAY, COMES, ROUTE, TAKE, WHERE, AT, UNREACHED, UNSERVED,
 MORNING, EVENING, LATEST, RIDE, LONGEST, TOOLONG, LOADS, FULL, BEST, FEWEST, SPARE, WALKS, REACH, ORDER,
 STATE) = range(30)

LOOKING = range(WHERE, STATE + 1)

NO_SUCH = [-2]
NONE_AT_ALL = [-6]
NOT_BEGUN = [-11]
CLOSED = [-16]
ALREADY_SO = [-17]
OUT_OF_RANGE = [-22]
TOO_MANY = [-28]
CANNOT_BE = [-33]

LEAST_INT = -2147483648
MOST_INT = 2147483647
MOST_WHOLE = 4294967295

# School and garage at 0, 0; one walks 10 at most; 5 seats.
PLAIN = (BEGIN, 0, 0, 0, 0, 10, 5)

NOT_PLACES = [
    (1001, 0), (-1001, 0), (0, 1001), (0, -1001),
    (LEAST_INT, 0), (MOST_INT, 0), (0, LEAST_INT), (0, MOST_INT), (1001, -1001),
]
CORNERS = [(-1000, -1000), (-1000, 1000), (1000, -1000), (1000, 1000)]


def numbers_of(call):
    """One call, (number, whole numbers, perhaps a list), as it is handed in."""
    numbers = []
    for part in call:
        if isinstance(part, list):
            numbers.append(len(part))
            numbers.extend(part)
        else:
            numbers.append(part)
    return numbers


def handed(calls):
    return [number for call in calls for number in numbers_of(call)]


def split(told):
    """The answers, one list each, out of what is given back."""
    parts = []
    start = 0
    while start < len(told):
        end = start + 1 + told[start]
        parts.append(told[start + 1:end])
        start = end
    return parts


def ask(calls):
    return split(answers(handed(calls)))


def last(calls):
    return ask(calls)[-1]


def do(line, call):
    numbers = numbers_of(call)
    return answer(line, numbers[0], numbers[1:])


def line_after(calls):
    line = Line()
    for call in calls:
        do(line, call)
    return line


def order_after(calls):
    return last(calls + [(ORDER,)])[1:-1]


def stops_and_pupils(places):
    """A stop, and one pupil who lives at it, at each place."""
    return [(STOP, x, y) for x, y in places] + [(PUPIL, x, y) for x, y in places]


def picture(value):
    """All that an object holds, as plain values that can be compared."""
    if isinstance(value, (list, tuple)):
        return [picture(one) for one in value]
    if hasattr(value, "__dict__"):
        return {name: picture(one) for name, one in vars(value).items()}
    return value


def far(one, other):
    return abs(one[0] - other[0]) + abs(one[1] - other[1])


class Maker:
    """Lines of calls, mostly ordinary ones, at times with something wrong in them."""

    def __init__(self, seed):
        self.luck = random.Random(seed)
        self.span = self.luck.choice((3, 8, 30, 1000))

    def odd(self):
        return self.luck.random() < 0.04

    def coordinate(self):
        if self.odd():
            return self.luck.choice((-1001, -1000, 1000, 1001, LEAST_INT, MOST_INT))
        return self.luck.randint(-self.span, self.span)

    def number(self, most):
        if self.odd():
            return self.luck.choice((most, most + 1, 255, MOST_WHOLE))
        return self.luck.randrange(most)

    def begin(self):
        walk = self.luck.choice((0, 1000, 1001)) if self.odd() else self.luck.randint(0, self.span)
        seats = self.luck.choice((0, 1, 60, 61)) if self.odd() else self.luck.randint(1, 9)
        return (BEGIN, self.coordinate(), self.coordinate(), self.coordinate(), self.coordinate(), walk, seats)

    def rule(self):
        limit = self.luck.choice((0, 10000, 10001)) if self.odd() else self.luck.randint(0, min(10000, 6 * self.span))
        return (RULE, self.number(101), self.number(101), limit)

    def time(self):
        if self.odd():
            return self.luck.choice((0, 100000, 100001, MOST_WHOLE))
        return self.luck.randint(0, 12 * self.span)

    def route(self):
        told = self.luck.sample(range(8), self.luck.randint(0, 5))
        if self.odd():
            told = told + [self.luck.choice((0, 1, 10, 255))]
        return (ROUTE, told)

    def call(self, kind):
        if kind == BEGIN:
            return self.begin()
        if kind == RULE:
            return self.rule()
        if kind == ROUTE:
            return self.route()
        if kind in (STOP, PUPIL, REACH):
            return (kind, self.coordinate(), self.coordinate())
        if kind == MOVES:
            return (kind, self.number(8), self.coordinate(), self.coordinate())
        if kind in (OPEN, CLOSE, AT):
            return (kind, self.number(8))
        if kind in (AWAY, COMES, WHERE, RIDE):
            return (kind, self.number(12))
        if kind in (MORNING, EVENING, LATEST):
            return (kind, self.time())
        return (kind,)

    def line(self, many):
        changes = (1, 4, 14, 5, 6, 20, 6, 6, 6, 10, 10)
        kinds = self.luck.choices(range(STATE + 1), changes + (5,) * len(LOOKING), k=many)
        return [self.begin()] + [self.call(kind) for kind in kinds]

    def full_line(self):
        """A begun bus with some stops and pupils, a few of them closed and away, and an order."""
        walk = self.luck.randint(0, self.span)
        ends = [self.luck.randint(-self.span, self.span) for k in range(4)]
        calls = [(BEGIN, *ends, walk, self.luck.randint(1, 9)), self.rule()]
        many = self.luck.randint(0, 10)
        for k in range(many):
            calls.append((STOP, self.coordinate(), self.coordinate()))
        for k in range(self.luck.randint(0, 20)):
            calls.append((PUPIL, self.coordinate(), self.coordinate()))
        closed = self.luck.sample(range(many), self.luck.randint(0, many // 4))
        left = [s for s in range(many) if s not in closed]
        calls = calls + [(CLOSE, s) for s in closed] + [(AWAY, self.luck.randrange(20)) for k in range(3)]
        route = self.luck.sample(left, self.luck.randint(0, len(left)))
        calls.append(self.luck.choice([(TAKE,), (ROUTE, route), (ROUTE, route)]))
        return calls


class BusTest(unittest.TestCase):
    def check(self, rows):
        """rows are pairs of a call and its answer, on one new object."""
        calls = [call for call, wanted in rows]
        got = ask(calls)
        self.assertEqual(len(got), len(rows))
        for k, (call, wanted) in enumerate(rows):
            self.assertEqual(got[k], wanted, f"call {k}: {call}")

    def check_last(self, calls, wanted):
        self.assertEqual(last(calls), wanted, calls)

    def check_refused(self, calls, call, refusal):
        """The call behind the others is refused, and all is as it was."""
        line = line_after(calls)
        before = picture(line)
        self.assertEqual(do(line, call), refusal, call)
        self.assertEqual(picture(line), before, call)
        self.check_last(calls + [call], refusal)
