"""The document's words told once more, slowly, and compared with on many made-up lines; the same ones each time."""

import itertools

from schoolbus.stops import answers
from tests.helper import BusTest, LOOKING, Maker, ask, far, handed, split

NAMES = ["begin", "rule", "stop", "open", "close", "pupil", "moves", "away", "comes", "route", "take", "where", "at",
         "unreached", "unserved", "morning", "evening", "latest", "ride", "longest", "toolong", "loads", "full", "best",
         "fewest", "spare", "walks", "reach", "order", "state"]

# Beside -11: in which ways each call can be refused.
REFUSALS = {
    "begin": (-22,), "rule": (-22,), "stop": (-22, -28), "open": (-2, -17), "close": (-2, -17), "pupil": (-22, -28),
    "moves": (-2, -22), "away": (-2, -17), "comes": (-2, -17), "route": (-2, -22, -16), "take": (-6, -28),
    "where": (-2, -33), "at": (-2,), "morning": (-22,), "evening": (-22,), "latest": (-22, -33), "ride": (-2, -33),
    "longest": (-6,), "full": (-6,), "best": (-6, -28), "fewest": (-33,), "reach": (-22,),
}


def wrong_place(*numbers):
    return any(abs(number) > 1000 for number in numbers)


class Model:
    def __init__(self):
        self.begun = False

    def answer(self, name, *given):
        if name != "begin" and not self.begun:
            return [-11]
        return getattr(self, name)(*given)

    def begin(self, sx, sy, gx, gy, walk, seats):
        if wrong_place(sx, sy, gx, gy) or walk not in range(1001) or seats not in range(1, 61):
            return [-22]
        self.begun = True
        self.school, self.garage, self.walk, self.seats = (sx, sy), (gx, gy), walk, seats
        self.halt, self.each, self.limit = 0, 0, 10000
        self.stops, self.closed, self.pupils, self.gone, self.sequence = {}, set(), {}, set(), ()
        return [0]

    def rule(self, halt, each, limit):
        if not (halt <= 100 and each <= 100 and limit <= 10000):
            return [-22]
        self.halt, self.each, self.limit = halt, each, limit
        return [0]

    def more(self, kept, most, x, y):
        if wrong_place(x, y):
            return [-22]
        if len(kept) >= most:
            return [-28]
        kept[len(kept)] = (x, y)
        return [len(kept) - 1]

    def stop(self, x, y):
        return self.more(self.stops, 10, x, y)

    def pupil(self, x, y):
        return self.more(self.pupils, 20, x, y)

    def open(self, s):
        if s not in self.stops:
            return [-2]
        if s not in self.closed:
            return [-17]
        self.closed.remove(s)
        return [0]

    def close(self, s):
        if s not in self.stops:
            return [-2]
        if s in self.closed:
            return [-17]
        were = self.at(s)[0]
        self.closed.add(s)
        self.sequence = tuple(other for other in self.sequence if other != s)
        return [were]

    def moves(self, p, x, y):
        if p not in self.pupils:
            return [-2]
        if wrong_place(x, y):
            return [-22]
        self.pupils[p] = (x, y)
        return [0]

    def away(self, p):
        if p not in self.pupils:
            return [-2]
        if p in self.gone:
            return [-17]
        self.gone.add(p)
        return [0]

    def comes(self, p):
        if p not in self.pupils:
            return [-2]
        if p not in self.gone:
            return [-17]
        self.gone.remove(p)
        return [0]

    def route(self, told):
        if not set(told) <= set(self.stops):
            return [-2]
        if any(told.count(s) > 1 for s in told):
            return [-22]
        if set(told) & self.closed:
            return [-16]
        self.sequence = tuple(told)
        return [len(told)]

    def stop_for(self, p):
        """(how far, which), or nothing."""
        near = sorted((far(place, self.pupils[p]), s) for s, place in self.stops.items() if s not in self.closed)
        return near[0] if near and near[0][0] <= self.walk else None

    def there(self):
        return sorted(set(self.pupils) - self.gone)

    def way(self, order):
        places = [self.garage] + [self.stops[s] for s in order] + [self.school]
        return sum(far(one, other) for one, other in zip(places, places[1:]))

    def best(self):
        needed = {self.stop_for(p)[1] for p in self.there() if self.stop_for(p)}
        if not needed:
            return [-6]
        if len(needed) > 6:
            return [-28]
        way, order = min((self.way(order), order) for order in itertools.permutations(needed))
        return [way, *order]

    def take(self):
        found = self.best()
        if found[0] < 0:
            return found
        self.sequence = tuple(found[1:])
        return [len(found) - 1]

    def where(self, p):
        if p not in self.pupils:
            return [-2]
        found = self.stop_for(p)
        return [found[1], found[0]] if found else [-33]

    def at(self, s):
        if s not in self.stops:
            return [-2]
        these = [p for p in self.there() if self.stop_for(p) and self.stop_for(p)[1] == s]
        return [len(these)] + these

    def unreached(self):
        these = [p for p in self.there() if not self.stop_for(p)]
        return [len(these)] + these

    def unserved(self):
        these = [p for p in self.there() if self.stop_for(p) and self.stop_for(p)[1] not in self.sequence]
        return [len(these)] + these

    def served(self):
        return [s for s in self.sequence if self.at(s)[0] > 0]

    def riders(self):
        return sorted(p for s in self.served() for p in self.at(s)[1:])

    def legs(self, places):
        return [far(one, other) for one, other in zip(places, places[1:])]

    def trip(self, start, stops, goal, t):
        legs = self.legs([start] + [self.stops[s] for s in stops] + [goal])
        waits = [self.halt + sum(self.each for p in self.at(s)[1:]) for s in stops]
        return [t + sum(legs[:k + 1]) + sum(waits[:k]) for k in range(len(legs))]

    def told(self, stops, times):
        return [len(stops)] + [number for pair in zip(stops, times) for number in pair] + [times[-1]]

    def morning(self, t):
        if t > 100000:
            return [-22]
        return self.told(self.served(), self.trip(self.garage, self.served(), self.school, t))

    def evening(self, t):
        if t > 100000:
            return [-22]
        return self.told(self.served()[::-1], self.trip(self.school, self.served()[::-1], self.garage, t))

    def latest(self, t):
        if t > 100000:
            return [-22]
        return [t - self.length()] if t >= self.length() else [-33]

    def length(self):
        # The way, and all the waits: each served stop once, each rider once.
        return self.way(self.served()) + self.halt * len(self.served()) + self.each * len(self.riders())

    def ride(self, p):
        if p not in self.pupils:
            return [-2]
        if p not in self.riders():
            return [-33]
        told = self.morning(0)
        came = dict(zip(told[1:-1:2], told[2:-1:2]))
        return [told[-1] - came[self.stop_for(p)[1]]]

    def longest(self):
        rides = [(-self.ride(p)[0], p) for p in self.riders()]
        return [min(rides)[1], -min(rides)[0]] if rides else [-6]

    def toolong(self):
        these = [p for p in self.riders() if self.ride(p)[0] > self.limit]
        return [len(these)] + these

    def loads(self):
        aboard = [self.at(s)[0] for s in self.served()]
        return [len(aboard)] + list(itertools.accumulate(aboard))

    def full(self):
        over = [[s, load - self.seats] for s, load in zip(self.served(), self.loads()[1:]) if load > self.seats]
        return over[0] if over else [-6]

    def opened(self):
        return [s for s in self.stops if s not in self.closed]

    def reached_by(self, stops):
        return {p for p in self.there() for s in stops if far(self.stops[s], self.pupils[p]) <= self.walk}

    def fewest(self):
        everybody = set(self.there())
        for many in range(len(self.opened()) + 1):
            for stops in itertools.combinations(self.opened(), many):
                if self.reached_by(stops) == everybody:
                    return [many, *stops]
        return [-33]

    def spare(self):
        now = self.reached_by(self.opened())
        these = [s for s in self.opened() if self.reached_by(set(self.opened()) - {s}) == now]
        return [len(these)] + these

    def walks(self):
        ways = [self.stop_for(p)[0] for p in self.there() if self.stop_for(p)]
        return [len(ways), sum(ways), max(ways + [0])]

    def reach(self, x, y):
        if wrong_place(x, y):
            return [-22]
        near = [p for p in self.there() if far((x, y), self.pupils[p]) <= self.walk]
        return [len(near), sum(not self.stop_for(p) for p in near)]

    def order(self):
        return [len(self.sequence), *self.sequence, self.way(self.served())]

    def state(self):
        return [0, len(self.stops), len(self.opened()), len(self.pupils), len(self.there()), len(self.riders()),
                self.length()]


class AsTheModel(BusTest):
    def test_many_lines(self):
        met = set()
        for seed in range(400):
            calls = Maker(seed).line(120)
            line = handed(calls)
            model = Model()
            wanted = [model.answer(NAMES[call[0]], *call[1:]) for call in calls]
            got = split(answers(line))
            for k, call in enumerate(calls):
                self.assertEqual(got[k], wanted[k], f"line {seed}, call {k}: {call}")
                met.add((NAMES[call[0]], min(wanted[k][0], 0)))
            self.assertEqual(line, handed(calls))
        # Each call has been answered, and refused in each way that it can be.
        for name in NAMES:
            for number in (0,) + REFUSALS.get(name, ()):
                self.assertIn((name, number), met)

    def test_looking_at_all_behind_full_lines(self):
        for seed in range(150):
            maker = Maker(seed)
            calls = maker.full_line()
            calls = calls + [maker.call(kind) for kind in LOOKING] * 2
            model = Model()
            wanted = [model.answer(NAMES[call[0]], *call[1:]) for call in calls]
            for call, told, asked in zip(calls, ask(calls), wanted, strict=True):
                self.assertEqual(told, asked, f"line {seed}: {call}")
