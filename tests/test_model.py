"""Many lines of calls against a second board, which counts with Python's fractions and floats."""

import random
import struct
import unittest
from fractions import Fraction

from tests.helper import ALL, NO_DOUBLE, NO_SINGLE, bounds, bytes_of, double, number_of, run, single
from tests.helper import clear, dial, event, events, frame, lost, new, point, points, put, raw, states, sums, tell
from tests.helper import trace


def made(exact):
    """A fraction made a double; a 0 without a sign."""
    return float(exact) + 0.0


def zone(y, four):
    if y < four[0]:
        return 0
    if y < four[1]:
        return 1
    if y > four[3]:
        return 4
    return 3 if y > four[2] else 2


class ModelGauge:
    def __init__(self, kind, place, row):
        self.kind, self.place = kind, place
        self.size = 1 << (kind // 2 % 4)
        numbers = [Fraction(number_of(bits)) for bits in row]
        self.a, self.b, self.w = numbers[:3]
        self.limits, self.h = numbers[3:7], numbers[7]
        self.lo, self.k = numbers[8:]
        self.clear()

    def clear(self):
        self.values = []
        self.state = 2

    def next_state(self, y):
        l0, l1, l2, l3 = self.limits
        z = zone(y, self.limits)
        if self.state < 2:
            back = zone(y, (made(l0 + self.h), made(l1 + self.h), l2, l3))
            return z if z < self.state else back if back > self.state else self.state
        if self.state > 2:
            back = zone(y, (l0, l1, made(l2 - self.h), made(l3 - self.h)))
            return z if z > self.state else back if back < self.state else self.state
        return z

    def read(self, row):
        """Take a reading, and give back the state before."""
        part = bytes(row[self.place:self.place + self.size])
        order = "big" if self.kind >= 8 else "little"
        self.number = int.from_bytes(part, order, signed=self.kind % 2 == 1)
        y = made(self.a * Fraction(float(self.number)) + self.b)
        if self.values:
            d = Fraction(made(Fraction(y) - Fraction(self.s)))
            self.s = made(Fraction(self.s) + d * self.w)
        else:
            self.s = y
        self.values.append(y)
        before, self.state = self.state, self.next_state(y)
        return before

    def trace(self):
        return [struct.unpack("<f", struct.pack("<f", y))[0] for y in self.values[-256:]]

    def summed(self, n):
        parts, squares = [0.0] * 4, [0.0] * 4
        numbers = self.trace()[-n:]
        for i, number in enumerate(numbers):
            parts[i % 4] = made(Fraction(parts[i % 4]) + Fraction(number))
            squares[i % 4] = made(Fraction(squares[i % 4]) + Fraction(number) ** 2)
        both = [made(Fraction(made(Fraction(four[0]) + Fraction(four[1])))
                     + Fraction(made(Fraction(four[2]) + Fraction(four[3])))) for four in (parts, squares)]
        return [double(number) for number in (*both, min(numbers), max(numbers))]

    def told(self, form):
        if form == 1:
            return single(self.values[-1]) if self.values else NO_SINGLE
        if not self.values:
            return NO_DOUBLE
        return double((self.values[-1], None, self.s, min(self.values), max(self.values))[form])

    def turned(self):
        t = made(Fraction(self.values[-1]) - self.lo)
        return min(max(round(made(Fraction(t) * self.k)), 0), 2 ** 32 - 1)

    def pointed(self, y):
        d = made(Fraction(number_of(y)) - self.b)
        whole = round(made(Fraction(d) / self.a))
        low, high = bounds(self.kind)
        near = min(max(whole, low), high)
        return [int(near != whole)] + bytes_of(near, self.kind) + [0] * (8 - self.size)


class Line:
    """Calls by chance, and beside each what the model answers."""

    def __init__(self, seed):
        self.chance = random.Random(seed)
        self.calls, self.wanted = [new()], [[0]]
        self.gauges = {}
        self.events, self.lost = [], 0

    def measure(self, above_0=False):
        chance = self.chance
        pick = chance.randrange(6)
        if pick == 0 and not above_0:
            return 0.0
        if pick == 1:
            number = 2.0 ** chance.randrange(-60, 60)
        elif pick == 2:
            number = float(chance.randrange(1, 1000)) / 2 ** chance.randrange(12)
        elif pick == 3:
            number = (1 + chance.randrange(2 ** 52) * 2.0 ** -52) * 2.0 ** chance.randrange(-60, 60)
        else:
            number = chance.randrange(1, 10 ** 6) / 1000
        return number if above_0 or chance.randrange(2) else -number

    def weight(self):
        chance = self.chance
        return chance.choice((1.0, 0.5, 0.1, chance.randrange(1, 2 ** 53) * 2.0 ** -53, 1 - 2.0 ** -53, 2.0 ** -60))

    def which(self):
        chance = self.chance
        own = sum(1 << g for g in self.gauges if chance.randrange(4))
        return chance.choice((own, own, own, own, 0, ALL, 1 << chance.randrange(64)))

    def add(self, call, answer):
        self.calls.append(call)
        self.wanted.append(answer)

    def add_set(self):
        chance = self.chance
        g, kind = chance.randrange(64), chance.randrange(16)
        place = chance.randrange(20)
        a, b = self.measure(), self.measure()
        limits, h = sorted(self.measure() for i in range(4)), abs(self.measure())
        if chance.randrange(3):
            # Limits among the values that the gauge may have, so that states change and the slack counts.
            a, b = chance.choice((0.5, -0.25, 3.0, 0.1)), float(chance.randrange(-9, 9))
            limits = sorted(b + a * chance.randrange(-140, 260) for i in range(4))
            h = chance.choice((0.0, 1.0, 5.5, 300.0))
        numbers = [a, b, self.weight(), *limits, h, self.measure(), self.measure(above_0=True)]
        row = [double(number) for number in numbers]
        self.gauges[g] = ModelGauge(kind, place, row)
        self.add(put(g, kind, place, row), [0])

    def add_frame(self):
        chance = self.chance
        row = [chance.choice((0, 1, 127, 128, 255, chance.randrange(256)))
               for i in range(chance.choice((30, 30, 30, 27, chance.randrange(30))))]
        which = self.which()
        members = [g for g in range(64) if which >> g & 1]
        gauges = [self.gauges.get(g) for g in members]
        time = chance.randrange(2 ** 64)
        if any(gauge is None or gauge.place + gauge.size > len(row) for gauge in gauges):
            self.add(frame(which, row, time), [-3])
            return
        for g, gauge in zip(members, gauges):
            before = gauge.read(row)
            if gauge.state != before:
                self.events.append(event(time, gauge.values[-1], g, before, gauge.state))
        self.lost += max(0, len(self.events) - 256)
        self.events = self.events[-256:]
        self.add(frame(which, row, time), [0])

    def with_readings(self, which):
        found = [self.gauges.get(g) for g in range(64) if which >> g & 1]
        return [gauge if gauge is not None and gauge.values else None for gauge in found]

    def add_tell(self):
        which, form = self.which(), self.chance.randrange(-1, 6)
        nothing = ModelGauge(0, 0, [0] * 10)
        gauges = [gauge or nothing for gauge in self.with_readings(which)]
        self.add(tell(which, form), [0] + [gauge.told(form) for gauge in gauges] if 0 <= form <= 4 else [-2])

    def add_raw(self):
        which, form = self.which(), self.chance.randrange(-1, 9)
        if not 0 <= form <= 7:
            self.add(raw(which, form), [-2])
            return
        gauges = self.with_readings(which)
        low, high = bounds(form)
        numbers = [min(max(gauge.number, low), high) if gauge else 0 for gauge in gauges]
        self.add(raw(which, form), [sum(1 for gauge in gauges if gauge)] + numbers)

    def add_dial(self):
        which = self.which()
        gauges = self.with_readings(which)
        numbers = [gauge.turned() if gauge else 0 for gauge in gauges]
        self.add(dial(which), [sum(1 for gauge in gauges if gauge)] + numbers)

    def any_gauge(self):
        return self.chance.choice((*self.gauges, *self.gauges, self.chance.randrange(-1, 65)))

    def near(self, gauge):
        """The bits of a y that such a gauge (or None) may be asked for."""
        chance = self.chance
        near = Fraction(0)
        if gauge is not None:
            near = gauge.a * Fraction(chance.randrange(-600, 600), 2) + gauge.b
        return chance.choice((double(float(near)), double(float(near)), double(self.measure())))

    def add_point(self):
        chance = self.chance
        g = self.any_gauge()
        gauge = self.gauges.get(g)
        y = chance.choice((self.near(gauge), self.near(gauge), chance.randrange(2 ** 64)))
        if not 0 <= g < 64 or not abs(number_of(y)) < 2.0 ** 125:
            self.add(point(g, y), [-2])
        elif gauge is None or gauge.a == 0:
            self.add(point(g, y), [-3])
        else:
            self.add(point(g, y), gauge.pointed(y))

    def add_points(self):
        chance = self.chance
        which = self.which()
        members = [g for g in range(64) if which >> g & 1]
        y = {g: self.near(self.gauges.get(g)) for g in range(64)}
        y[chance.randrange(64)] = chance.randrange(2 ** 64)
        row = [chance.randrange(256) for i in range(chance.choice((30, 30, 30, chance.randrange(30))))]
        gauges = [self.gauges.get(g) for g in members]
        call = points(which, y, row)
        if not all(abs(number_of(y[g])) < 2.0 ** 125 for g in members):
            self.add(call, [-2])
        elif any(gauge is None or gauge.a == 0 or gauge.place + gauge.size > len(row) for gauge in gauges):
            self.add(call, [-3])
        else:
            others, filled = 0, list(row)
            for g, gauge in zip(members, gauges):
                sent = gauge.pointed(y[g])
                others += sent[0]
                filled[gauge.place:gauge.place + gauge.size] = sent[1:1 + gauge.size]
            self.add(call, [others] + filled)

    def add_states(self):
        wanted = [sum(1 << g for g in self.gauges if self.gauges[g].state == s) for s in range(5)]
        self.add(states(), [0, *wanted, sum(1 << g for g in self.gauges if self.gauges[g].values)])

    def add_events(self):
        most = self.chance.choice((0, 1, 5, 20, 256, 257, -1))
        if not 0 <= most <= 256:
            self.add(events(most), [-2])
            return
        oldest, self.events = self.events[:most], self.events[most:]
        self.add(events(most), [len(oldest)] + [number for one in oldest for number in one])

    def add_lost(self):
        self.add(lost(), [self.lost])

    def count_of(self, g):
        """How many a call asks for: as many as there are, or some beside."""
        have = len(self.gauges[g].values[-256:]) if g in self.gauges else 0
        return self.chance.choice((have, have, have + 1, have - 1, have // 2, self.chance.randrange(-1, 258))), have

    def add_trace(self):
        g = self.any_gauge()
        n, have = self.count_of(g)
        if not 0 <= g < 64 or not 0 <= n <= 256:
            self.add(trace(g, n), [-2])
        elif n > have:
            self.add(trace(g, n), [-3])
        else:
            numbers = self.gauges[g].trace()[have - n:] if have else []
            self.add(trace(g, n), [0] + [single(number) for number in numbers])

    def add_sums(self):
        g = self.any_gauge()
        n, have = self.count_of(g)
        if not 0 <= g < 64 or not 1 <= n <= 256:
            self.add(sums(g, n), [-2])
        elif n > have:
            self.add(sums(g, n), [-3])
        else:
            self.add(sums(g, n), [0] + self.gauges[g].summed(n))

    def add_clear(self):
        which = self.chance.choice((0, 1 << self.any_gauge() % 64, self.which()))
        members = [g for g in range(64) if which >> g & 1]
        if any(g not in self.gauges for g in members):
            self.add(clear(which), [-3])
            return
        for g in members:
            self.gauges[g].clear()
        self.add(clear(which), [0])

    def fill(self, count):
        adders = (*[self.add_frame] * 12, self.add_set, self.add_tell, self.add_tell, self.add_raw, self.add_dial,
                  self.add_point, self.add_points, self.add_states, self.add_states, self.add_events, self.add_lost,
                  self.add_trace, self.add_sums, self.add_sums, self.add_clear)
        for i in range(4):
            self.add_set()
        while len(self.calls) < count:
            self.chance.choice(adders)()


class AgainstTheModel(unittest.TestCase):
    def test_lines(self):
        answered = {}
        for seed in range(90):
            line = Line(seed)
            line.fill(300 if seed % 3 == 0 else 150)
            given = run(*line.calls)
            for i, call in enumerate(line.calls):
                self.assertEqual(given[i], line.wanted[i], (seed, i, call))
            for call, wanted in zip(line.calls, line.wanted):
                answered[call[0], min(wanted[0], 0)] = answered.get((call[0], min(wanted[0], 0)), 0) + 1
        # So that no call goes untried: each was done often, and refused in each way that it can be.
        self.assertTrue(all(answered.get((number, 0), 0) > 20 for number in range(1, 14)), answered)
        ways = ((2, -3), (3, -2), (4, -2), (6, -2), (6, -3), (7, -2), (7, -3), (9, -2), (11, -2), (11, -3), (12, -2),
                (12, -3), (13, -3))
        self.assertTrue(all(answered.get(way, 0) > 5 for way in ways), answered)


if __name__ == "__main__":
    unittest.main()
