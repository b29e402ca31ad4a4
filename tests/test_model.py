"""Many lines of calls against a second board, which counts with Python's fractions and floats."""

import random
import unittest
from fractions import Fraction

from tests.helper import ALL, NO_DOUBLE, NO_SINGLE, bounds, bytes_of, double, number_of, run, single
from tests.helper import dial, frame, new, point, put, raw, tell


def made(exact):
    """A fraction made a double; a 0 without a sign."""
    return float(exact) + 0.0


class ModelGauge:
    def __init__(self, kind, place, row):
        self.kind, self.place = kind, place
        self.size = 1 << (kind // 2 % 4)
        numbers = [Fraction(number_of(bits)) for bits in row]
        self.a, self.b, self.w = numbers[:3]
        self.lo, self.k = numbers[8:]
        self.values = []

    def read(self, row):
        part = bytes(row[self.place:self.place + self.size])
        order = "big" if self.kind >= 8 else "little"
        self.number = int.from_bytes(part, order, signed=self.kind % 2 == 1)
        y = made(self.a * Fraction(float(self.number)) + self.b)
        if self.values:
            d = Fraction(made(Fraction(y) - Fraction(self.s)))
            self.s = made(Fraction(self.s) + d * self.w)
        else:
            self.s = y
        self.values.append(y)

    def told(self, form):
        if form == 1:
            return single(self.values[-1]) if self.values else NO_SINGLE
        if not self.values:
            return NO_DOUBLE
        return double((self.values[-1], None, self.s, min(self.values), max(self.values))[form])

    def turned(self):
        t = made(Fraction(self.values[-1]) - self.lo)
        return min(max(round(made(Fraction(t) * self.k)), 0), 2 ** 32 - 1)

    def pointed(self, y):
        d = made(Fraction(number_of(y)) - self.b)
        whole = round(made(Fraction(d) / self.a))
        low, high = bounds(self.kind)
        near = min(max(whole, low), high)
        return [int(near != whole)] + bytes_of(near, self.kind) + [0] * (8 - self.size)


class Line:
    """Calls by chance, and beside each what the model answers."""

    def __init__(self, seed):
        self.chance = random.Random(seed)
        self.calls, self.wanted = [new()], [[0]]
        self.gauges = {}

    def measure(self, above_0=False):
        chance = self.chance
        pick = chance.randrange(6)
        if pick == 0 and not above_0:
            return 0.0
        if pick == 1:
            number = 2.0 ** chance.randrange(-60, 60)
        elif pick == 2:
            number = float(chance.randrange(1, 1000)) / 2 ** chance.randrange(12)
        elif pick == 3:
            number = (1 + chance.randrange(2 ** 52) * 2.0 ** -52) * 2.0 ** chance.randrange(-60, 60)
        else:
            number = chance.randrange(1, 10 ** 6) / 1000
        return number if above_0 or chance.randrange(2) else -number

    def weight(self):
        chance = self.chance
        return chance.choice((1.0, 0.5, 0.1, chance.randrange(1, 2 ** 53) * 2.0 ** -53, 1 - 2.0 ** -53, 2.0 ** -60))

    def which(self):
        chance = self.chance
        own = sum(1 << g for g in self.gauges if chance.randrange(4))
        return chance.choice((own, own, own, own, 0, ALL, 1 << chance.randrange(64)))

    def add(self, call, answer):
        self.calls.append(call)
        self.wanted.append(answer)

    def add_set(self):
        chance = self.chance
        g, kind = chance.randrange(64), chance.randrange(16)
        place = chance.randrange(20)
        limits = sorted(self.measure() for i in range(4))
        numbers = [self.measure(), self.measure(), self.weight(), *limits, abs(self.measure()), self.measure(),
                   self.measure(above_0=True)]
        row = [double(number) for number in numbers]
        self.gauges[g] = ModelGauge(kind, place, row)
        self.add(put(g, kind, place, row), [0])

    def add_frame(self):
        chance = self.chance
        row = [chance.choice((0, 1, 127, 128, 255, chance.randrange(256)))
               for i in range(chance.choice((30, 30, 30, 27, chance.randrange(30))))]
        which = self.which()
        members = [g for g in range(64) if which >> g & 1]
        gauges = [self.gauges.get(g) for g in members]
        if any(gauge is None or gauge.place + gauge.size > len(row) for gauge in gauges):
            self.add(frame(which, row, chance.randrange(2 ** 64)), [-3])
            return
        for gauge in gauges:
            gauge.read(row)
        self.add(frame(which, row, chance.randrange(2 ** 64)), [0])

    def with_readings(self, which):
        found = [self.gauges.get(g) for g in range(64) if which >> g & 1]
        return [gauge if gauge is not None and gauge.values else None for gauge in found]

    def add_tell(self):
        which, form = self.which(), self.chance.randrange(-1, 6)
        nothing = ModelGauge(0, 0, [0] * 10)
        gauges = [gauge or nothing for gauge in self.with_readings(which)]
        self.add(tell(which, form), [0] + [gauge.told(form) for gauge in gauges] if 0 <= form <= 4 else [-2])

    def add_raw(self):
        which, form = self.which(), self.chance.randrange(-1, 9)
        if not 0 <= form <= 7:
            self.add(raw(which, form), [-2])
            return
        gauges = self.with_readings(which)
        low, high = bounds(form)
        numbers = [min(max(gauge.number, low), high) if gauge else 0 for gauge in gauges]
        self.add(raw(which, form), [sum(1 for gauge in gauges if gauge)] + numbers)

    def add_dial(self):
        which = self.which()
        gauges = self.with_readings(which)
        self.add(dial(which), [sum(1 for gauge in gauges if gauge)] + [gauge.turned() if gauge else 0 for gauge in gauges])

    def add_point(self):
        chance = self.chance
        g = chance.choice((*self.gauges, *self.gauges, chance.randrange(-1, 65)))
        gauge = self.gauges.get(g)
        near = Fraction(0)
        if gauge is not None:
            near = gauge.a * Fraction(chance.randrange(-600, 600), 2) + gauge.b
        y = chance.choice((double(float(near)), double(float(near)), double(self.measure()), chance.randrange(2 ** 64)))
        if not 0 <= g < 64 or not abs(number_of(y)) < 2.0 ** 125:
            self.add(point(g, y), [-2])
        elif gauge is None or gauge.a == 0:
            self.add(point(g, y), [-3])
        else:
            self.add(point(g, y), gauge.pointed(y))

    def fill(self, count):
        adders = (self.add_set, self.add_frame, self.add_frame, self.add_frame, self.add_tell, self.add_tell,
                  self.add_raw, self.add_dial, self.add_point, self.add_point)
        for i in range(4):
            self.add_set()
        while len(self.calls) < count:
            self.chance.choice(adders)()


class AgainstTheModel(unittest.TestCase):
    def test_lines(self):
        for seed in range(60):
            line = Line(seed)
            line.fill(150)
            given = run(*line.calls)
            for i, call in enumerate(line.calls):
                self.assertEqual(given[i], line.wanted[i], (seed, i, call))


if __name__ == "__main__":
    unittest.main()
