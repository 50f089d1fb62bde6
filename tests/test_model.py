"""The document's words told once more, slowly, and compared with on many made-up lines; the same ones each time."""

import itertools

from schoolbus.stops import answers
from tests.helper import BusTest, Maker, far, handed, line_after, split

NAMES = ["begin", "rule", "stop", "open", "close", "pupil", "moves", "away", "comes", "route", "take", "where", "at",
         "unreached", "unserved"]


def wrong_place(*numbers):
    return any(abs(number) > 1000 for number in numbers)


class Model:
    def __init__(self):
        self.begun = False

    def answer(self, name, *given):
        if name != "begin" and not self.begun:
            return [-11]
        return getattr(self, name)(*given)

    def begin(self, sx, sy, gx, gy, walk, seats):
        if wrong_place(sx, sy, gx, gy) or walk not in range(1001) or seats not in range(1, 61):
            return [-22]
        self.begun = True
        self.school, self.garage, self.walk = (sx, sy), (gx, gy), walk
        self.stops, self.closed, self.pupils, self.gone, self.order = {}, set(), {}, set(), ()
        return [0]

    def rule(self, halt, each, limit):
        return [0 if halt <= 100 and each <= 100 and limit <= 10000 else -22]

    def more(self, kept, most, x, y):
        if wrong_place(x, y):
            return [-22]
        if len(kept) >= most:
            return [-28]
        kept[len(kept)] = (x, y)
        return [len(kept) - 1]

    def stop(self, x, y):
        return self.more(self.stops, 10, x, y)

    def pupil(self, x, y):
        return self.more(self.pupils, 20, x, y)

    def open(self, s):
        if s not in self.stops:
            return [-2]
        if s not in self.closed:
            return [-17]
        self.closed.remove(s)
        return [0]

    def close(self, s):
        if s not in self.stops:
            return [-2]
        if s in self.closed:
            return [-17]
        were = self.at(s)[0]
        self.closed.add(s)
        self.order = tuple(other for other in self.order if other != s)
        return [were]

    def moves(self, p, x, y):
        if p not in self.pupils:
            return [-2]
        if wrong_place(x, y):
            return [-22]
        self.pupils[p] = (x, y)
        return [0]

    def away(self, p):
        if p not in self.pupils:
            return [-2]
        if p in self.gone:
            return [-17]
        self.gone.add(p)
        return [0]

    def comes(self, p):
        if p not in self.pupils:
            return [-2]
        if p not in self.gone:
            return [-17]
        self.gone.remove(p)
        return [0]

    def route(self, told):
        if not set(told) <= set(self.stops):
            return [-2]
        if any(told.count(s) > 1 for s in told):
            return [-22]
        if set(told) & self.closed:
            return [-16]
        self.order = tuple(told)
        return [len(told)]

    def stop_for(self, p):
        """(how far, which), or nothing."""
        near = sorted((far(place, self.pupils[p]), s) for s, place in self.stops.items() if s not in self.closed)
        return near[0] if near and near[0][0] <= self.walk else None

    def there(self):
        return sorted(set(self.pupils) - self.gone)

    def way(self, order):
        places = [self.garage] + [self.stops[s] for s in order] + [self.school]
        return sum(far(one, other) for one, other in zip(places, places[1:]))

    def take(self):
        needed = {self.stop_for(p)[1] for p in self.there() if self.stop_for(p)}
        if not needed:
            return [-6]
        if len(needed) > 6:
            return [-28]
        self.order = min((self.way(order), order) for order in itertools.permutations(needed))[1]
        return [len(needed)]

    def where(self, p):
        if p not in self.pupils:
            return [-2]
        found = self.stop_for(p)
        return [found[1], found[0]] if found else [-33]

    def at(self, s):
        if s not in self.stops:
            return [-2]
        these = [p for p in self.there() if self.stop_for(p) and self.stop_for(p)[1] == s]
        return [len(these)] + these

    def unreached(self):
        these = [p for p in self.there() if not self.stop_for(p)]
        return [len(these)] + these

    def unserved(self):
        these = [p for p in self.there() if self.stop_for(p) and self.stop_for(p)[1] not in self.order]
        return [len(these)] + these


class AsTheModel(BusTest):
    def test_many_lines(self):
        met = set()
        for seed in range(400):
            calls = Maker(seed).line(120)
            line = handed(calls)
            model = Model()
            wanted = [model.answer(NAMES[call[0]], *call[1:]) for call in calls]
            got = split(answers(line))
            for k, call in enumerate(calls):
                self.assertEqual(got[k], wanted[k], f"line {seed}, call {k}: {call}")
                met.add((call[0], min(wanted[k][0], 0)))
            self.assertEqual(line, handed(calls))
            after = line_after(calls).bus
            if model.begun:
                self.assertEqual(after.order, list(model.order), f"line {seed}")
        # Each call has been answered, and refused in each way that it can be.
        ways = {0: (0, -22), 1: (0, -22, -11), 2: (0, -22, -28), 3: (0, -2, -17), 4: (0, -2, -17), 5: (0, -22, -28),
                6: (0, -2, -22), 7: (0, -2, -17), 8: (0, -2, -17), 9: (0, -2, -22, -16), 10: (0, -6, -28),
                11: (0, -2, -33), 12: (0, -2), 13: (0, -11), 14: (0, -11)}
        for kind, numbers in ways.items():
            for number in numbers:
                self.assertIn((kind, number), met)
