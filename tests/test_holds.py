"""What holds (a, b, f, g), on many made-up lines; the same ones each time."""

from tests.helper import (
    AT, BusTest, Maker, STOP, TAKE, UNREACHED, UNSERVED, WHERE, ask, do, far, line_after, picture,
)

LOOKING = (WHERE, AT, UNREACHED, UNSERVED)


class Holds(BusTest):
    def lines(self):
        for seed in range(150):
            yield seed, Maker(seed).full_line()

    def test_a_nobody_walks_too_far_nor_past_a_nearer_one(self):
        for seed, calls in self.lines():
            bus = line_after(calls).bus
            for p, pupil in enumerate(bus.pupils):
                told = ask(calls + [(WHERE, p)])[-1]
                ways = [far(stop.place, pupil.home) for stop in bus.stops if stop.is_open]
                if told == [-33]:
                    self.assertTrue(all(way > bus.walk for way in ways), seed)
                else:
                    self.assertLessEqual(told[1], bus.walk)
                    self.assertEqual(told[1], min(ways))
                    self.assertTrue(bus.stops[told[0]].is_open)
                    self.assertEqual(told[1], far(bus.stops[told[0]].place, pupil.home))

    def test_a_everybody_is_at_one_stop_or_reaches_none(self):
        for seed, calls in self.lines():
            bus = line_after(calls).bus
            looks = [(AT, s) for s in range(len(bus.stops))] + [(UNREACHED,)]
            told = ask(calls + looks)[len(calls):]
            everybody = sorted(p for these in told for p in these[1:])
            self.assertEqual(everybody, [p for p, pupil in enumerate(bus.pupils) if pupil.is_there], seed)
            self.assertEqual([these[0] for these in told], [len(these) - 1 for these in told])

    def test_b_all_who_have_a_stop_in_the_order_ride_and_nobody_else(self):
        for seed, calls in self.lines():
            bus = line_after(calls).bus
            self.assertEqual(len(set(bus.order)), len(bus.order))
            self.assertTrue(all(bus.stops[s].is_open for s in bus.order))
            left = [p for s in range(len(bus.stops)) if s not in bus.order for p in ask(calls + [(AT, s)])[-1][1:]]
            self.assertEqual(ask(calls + [(UNSERVED,)])[-1], [len(left)] + sorted(left), seed)

    def test_b_a_taken_order_leaves_nobody_and_goes_nowhere_for_nobody(self):
        taken = 0
        for seed, calls in self.lines():
            told = ask(calls + [(TAKE,), (UNSERVED,)])
            if told[-2][0] > 0:
                taken = taken + 1
                self.assertEqual(told[-1], [0], seed)
                order = line_after(calls + [(TAKE,)]).bus.order
                self.assertEqual(len(order), told[-2][0])
                for s in order:
                    self.assertGreater(ask(calls + [(AT, s)])[-1][0], 0)
        self.assertGreater(taken, 50)

    def test_f_a_stop_more_makes_nobody_walk_further(self):
        for seed, calls in self.lines():
            maker = Maker(seed + 1000)
            more = (STOP, maker.luck.randint(-20, 20), maker.luck.randint(-20, 20))
            looks = [(WHERE, p) for p in range(len(line_after(calls).bus.pupils))]
            before = ask(calls + looks)[len(calls):]
            after = ask(calls + [more] + looks)[len(calls) + 1:]
            for old, new in zip(before, after):
                if old != [-33]:
                    self.assertNotEqual(new, [-33], seed)
                    self.assertLessEqual(new[1], old[1], seed)

    def test_g_refused_and_looking_changes_nothing(self):
        for seed in range(150):
            line = line_after([])
            for call in Maker(seed).line(60):
                before = picture(line)
                told = do(line, call)
                if told[0] < 0 or call[0] in LOOKING:
                    self.assertEqual(picture(line), before, f"line {seed}: {call}")

    def test_g_a_line_answers_alike_without_what_is_refused_or_looks(self):
        for seed in range(150):
            calls = Maker(seed).line(60)
            told = ask(calls)
            kept = [k for k, call in enumerate(calls) if told[k][0] >= 0 and call[0] not in LOOKING]
            if kept:
                self.assertEqual(ask([calls[k] for k in kept]), [told[k] for k in kept], seed)
