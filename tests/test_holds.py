"""What holds (a to g), on many made-up lines; the same ones each time."""

import itertools

from tests.helper import (
    AT, BEST, BusTest, CLOSE, EVENING, FEWEST, LATEST, LOADS, LONGEST, LOOKING, MORNING, Maker, ORDER, RIDE, ROUTE,
    SPARE, STATE, STOP, TAKE, UNREACHED, UNSERVED, WHERE, ask, do, far, last, line_after, order_after, picture,
)


class Holds(BusTest):
    def lines(self):
        for seed in range(150):
            yield seed, Maker(seed).full_line()

    def test_a_nobody_walks_too_far_nor_past_a_nearer_one(self):
        for seed, calls in self.lines():
            bus = line_after(calls).bus
            for p, pupil in enumerate(bus.pupils):
                told = ask(calls + [(WHERE, p)])[-1]
                ways = [far(stop.place, pupil.home) for stop in bus.stops if stop.is_open]
                if told == [-33]:
                    self.assertTrue(all(way > bus.walk for way in ways), seed)
                else:
                    self.assertLessEqual(told[1], bus.walk)
                    self.assertEqual(told[1], min(ways))
                    self.assertTrue(bus.stops[told[0]].is_open)
                    self.assertEqual(told[1], far(bus.stops[told[0]].place, pupil.home))

    def test_a_everybody_is_at_one_stop_or_reaches_none(self):
        for seed, calls in self.lines():
            bus = line_after(calls).bus
            looks = [(AT, s) for s in range(len(bus.stops))] + [(UNREACHED,)]
            told = ask(calls + looks)[len(calls):]
            everybody = sorted(p for these in told for p in these[1:])
            self.assertEqual(everybody, [p for p, pupil in enumerate(bus.pupils) if pupil.is_there], seed)
            self.assertEqual([these[0] for these in told], [len(these) - 1 for these in told])

    def test_b_all_who_have_a_stop_in_the_order_ride_and_nobody_else(self):
        for seed, calls in self.lines():
            bus = line_after(calls).bus
            self.assertEqual(len(set(bus.order)), len(bus.order))
            self.assertTrue(all(bus.stops[s].is_open for s in bus.order))
            left = [p for s in range(len(bus.stops)) if s not in bus.order for p in ask(calls + [(AT, s)])[-1][1:]]
            self.assertEqual(ask(calls + [(UNSERVED,)])[-1], [len(left)] + sorted(left), seed)

    def test_b_a_taken_order_leaves_nobody_and_goes_nowhere_for_nobody(self):
        taken = 0
        for seed, calls in self.lines():
            told = ask(calls + [(TAKE,), (UNSERVED,)])
            if told[-2][0] > 0:
                taken = taken + 1
                self.assertEqual(told[-1], [0], seed)
                order = order_after(calls + [(TAKE,)])
                self.assertEqual(len(order), told[-2][0])
                for s in order:
                    self.assertGreater(ask(calls + [(AT, s)])[-1][0], 0)
        self.assertGreater(taken, 50)

    def test_b_it_goes_to_each_stop_with_somebody_once_and_carries_all(self):
        carried = 0
        for seed, calls in self.lines():
            morning = last(calls + [(MORNING, 0)])
            stops = morning[1:-1:2]
            self.assertEqual(len(stops), morning[0], seed)
            self.assertEqual(len(set(stops)), len(stops), seed)
            self.assertEqual(stops, [s for s in order_after(calls) if last(calls + [(AT, s)])[0] > 0], seed)
            on_it = sum(last(calls + [(AT, s)])[0] for s in stops)
            self.assertEqual(([0] + last(calls + [(LOADS,)])[1:])[-1], on_it, seed)
            state = last(calls + [(STATE,)])
            self.assertEqual(state[5], on_it, seed)
            self.assertEqual(on_it + last(calls + [(UNSERVED,)])[0] + last(calls + [(UNREACHED,)])[0], state[4], seed)
            carried = carried + on_it
        self.assertGreater(carried, 300)

    def test_c_started_at_the_latest_it_is_there_just_then(self):
        refused = 0
        for seed, calls in self.lines():
            length = last(calls + [(STATE,)])[-1]
            for t in (0, length - 1, length, length + 1, 500, 100000):
                start = last(calls + [(LATEST, max(t, 0))])[0]
                if start == -33:
                    refused = refused + 1
                    self.assertLess(t, length, seed)
                else:
                    self.assertEqual(last(calls + [(MORNING, start)])[-1], max(t, 0), seed)
        self.assertGreater(refused, 100)

    def test_c_nobody_rides_longer_than_the_bus_is_on_its_way(self):
        rode = 0
        for seed, calls in self.lines():
            length = last(calls + [(STATE,)])[-1]
            rides = {}
            for p in range(last(calls + [(STATE,)])[3]):
                told = last(calls + [(RIDE, p)])[0]
                if told != -33:
                    rides[p] = told
                    self.assertLessEqual(0, told, seed)
                    self.assertLessEqual(told, length, seed)
            rode = rode + len(rides)
            wanted = [min(p for p in rides if rides[p] == max(rides.values())), max(rides.values())] if rides else [-6]
            self.assertEqual(last(calls + [(LONGEST,)]), wanted, seed)
        self.assertGreater(rode, 300)

    def test_d_no_order_of_these_stops_is_shorter_than_the_best(self):
        met = {}
        for seed, calls in self.lines():
            best = last(calls + [(BEST,)])
            met[len(best) - 1] = met.get(len(best) - 1, 0) + 1
            taken = ask(calls + [(TAKE,), (ORDER,)])
            if best[0] < 0:
                self.assertEqual(taken[-2], best, seed)
                continue
            self.assertEqual(taken[-2:], [[len(best) - 1], [len(best) - 1] + best[1:] + best[:1]], seed)
            if len(best) > 5:
                continue
            for order in itertools.permutations(sorted(best[1:])):
                way = last(calls + [(ROUTE, list(order)), (ORDER,)])[-1]
                self.assertLessEqual((best[0], best[1:]), (way, list(order)), seed)
        self.assertTrue(all(met[many] > 3 for many in range(7)), met)

    def test_d_the_way_home_is_as_far(self):
        for seed, calls in self.lines():
            morning = last(calls + [(MORNING, 30)])
            evening = last(calls + [(EVENING, 30)])
            self.assertEqual(evening[-1], morning[-1], seed)
            self.assertEqual(evening[1:-1:2], morning[1:-1:2][::-1], seed)

    def test_e_nobody_is_left_by_the_fewest_and_no_fewer_would_do(self):
        met = set()
        for seed, calls in self.lines():
            bus = line_after(calls).bus
            told = last(calls + [(FEWEST,)])
            opened = [s for s, stop in enumerate(bus.stops) if stop.is_open]
            met.add(told[0])
            if told == [-33]:
                self.assertGreater(last(calls + [(UNREACHED,)])[0], 0, seed)
                continue
            self.assertEqual(last(calls + [(UNREACHED,)]), [0], seed)
            self.assertEqual(len(told), told[0] + 1, seed)
            shut = [(CLOSE, s) for s in opened if s not in told[1:]]
            self.assertEqual(last(calls + shut + [(UNREACHED,)]), [0], seed)
            # Neither fewer do, nor as many that are lesser where they first differ.
            for many in range(told[0] + 1):
                for stops in itertools.combinations(opened, many):
                    if (many, list(stops)) < (told[0], told[1:]):
                        shut = [(CLOSE, s) for s in opened if s not in stops]
                        self.assertGreater(last(calls + shut + [(UNREACHED,)])[0], 0, seed)
        self.assertLessEqual({-33, 0, 1, 2, 3}, met)

    def test_e_a_spare_stop_can_be_closed_and_no_other(self):
        spares = 0
        for seed, calls in self.lines():
            bus = line_after(calls).bus
            told = last(calls + [(SPARE,)])
            before = last(calls + [(UNREACHED,)])
            spares = spares + told[0]
            can_be = []
            for s, stop in enumerate(bus.stops):
                if stop.is_open and last(calls + [(CLOSE, s), (UNREACHED,)]) == before:
                    can_be.append(s)
            self.assertEqual(told, [len(can_be)] + can_be, seed)
        self.assertGreater(spares, 100)

    def test_f_a_stop_more_makes_nobody_walk_further(self):
        for seed, calls in self.lines():
            maker = Maker(seed + 1000)
            more = (STOP, maker.luck.randint(-20, 20), maker.luck.randint(-20, 20))
            looks = [(WHERE, p) for p in range(len(line_after(calls).bus.pupils))]
            before = ask(calls + looks)[len(calls):]
            after = ask(calls + [more] + looks)[len(calls) + 1:]
            for old, new in zip(before, after):
                if old != [-33]:
                    self.assertNotEqual(new, [-33], seed)
                    self.assertLessEqual(new[1], old[1], seed)

    def test_g_refused_and_looking_changes_nothing(self):
        for seed in range(150):
            line = line_after([])
            for call in Maker(seed).line(60):
                before = picture(line)
                told = do(line, call)
                if told[0] < 0 or call[0] in LOOKING:
                    self.assertEqual(picture(line), before, f"line {seed}: {call}")

    def test_g_a_line_answers_alike_without_what_is_refused_or_looks(self):
        for seed in range(150):
            calls = Maker(seed).line(60)
            told = ask(calls)
            kept = [k for k, call in enumerate(calls) if told[k][0] >= 0 and call[0] not in LOOKING]
            if kept:
                self.assertEqual(ask([calls[k] for k in kept]), [told[k] for k in kept], seed)
