"""gb_sums: promise 13."""

import math
import random
import struct
import unittest
from fractions import Fraction

from tests.helper import ALL, INT_MAX, INT_MIN
from tests.helper import bytes_of, double, frame, how, last, new, number_of, put, run, single, states, sums, tell, trace

# Gauge 5 here has values of 2^-60 times a whole number of 64 bits with a sign.
STEP = 2.0 ** -60


def calls_for(values):
    """A board whose gauge 5 has read these values."""
    frames = [frame(32, bytes_of(int(Fraction(value) / Fraction(STEP)), 7)) for value in values]
    return [new(), put(5, 7, 0, how(a=STEP)), *frames]


def summed(values, n=None):
    """The four numbers that gauge 5 answers after these values, as floats."""
    given = last(*calls_for(values), sums(5, len(values) if n is None else n))
    if len(given) != 5 or given[0] != 0:
        raise AssertionError(f"refused: {given}")
    return [number_of(bits) for bits in given[1:]]


def made_single(value):
    """A float made a single, as the float that this is."""
    return struct.unpack("<f", struct.pack("<f", value))[0]


def added(first, second):
    return float(Fraction(first) + Fraction(second)) + 0.0


def by_the_words(values):
    """What is to be answered, counted with fractions; the values are singles already."""
    parts, squares = [0.0] * 4, [0.0] * 4
    for i, value in enumerate(values):
        parts[i % 4] = added(parts[i % 4], value)
        squares[i % 4] = float(Fraction(value) * Fraction(value) + Fraction(squares[i % 4]))
    total = added(added(parts[0], parts[1]), added(parts[2], parts[3]))
    total_squares = added(added(squares[0], squares[1]), added(squares[2], squares[3]))
    return [total, total_squares, min(values), max(values)]


class Ordinary(unittest.TestCase):
    def test_one_to_nine_numbers(self):
        values = [3.0, -1.5, 4.25, -1.0, 5.0, -7.5, 2.0, 6.5, -3.0]
        for n in range(1, 10):
            part = values[:n]
            wanted = [sum(part), sum(value * value for value in part), min(part), max(part)]
            self.assertEqual(summed(part), wanted, n)

    def test_bits_written_out(self):
        given = last(*calls_for([1.0, 2.0]), sums(5, 2))
        self.assertEqual(given, [0, 0x4008000000000000, 0x4014000000000000, 0x3FF0000000000000, 0x4000000000000000])

    def test_the_last_n(self):
        values = [3.0, -1.5, 4.25, -1.0, 5.0, -7.5, 2.0, 6.5, -3.0]
        for n in range(1, 10):
            self.assertEqual(summed(values, n), by_the_words(values[-n:]), n)

    def test_all_below_0(self):
        self.assertEqual(summed([-1.0, -2.0, -4.0]), [-7.0, 21.0, -4.0, -1.0])
        self.assertEqual(summed([-3.0]), [-3.0, 9.0, -3.0, -3.0])

    def test_256_of_more_than_256(self):
        for count in (256, 257, 259, 290):
            values = [((i * 37) % 101 - 50) / 8 for i in range(count)]
            self.assertEqual(summed(values, 256), by_the_words(values[-256:]), count)
            self.assertEqual(summed(values, 255), by_the_words(values[-255:]), count)

    def test_of_the_trace_not_of_the_values(self):
        # The least and the greatest of all the gauge's values are others.
        given = run(new(), put(5, 0, 0, how(a=0.1)), *[frame(32, [x]) for x in (200, 0, 3, 7)], sums(5, 2), tell(32, 3),
                    tell(32, 4))
        made = [made_single(0.1 * x) for x in (3, 7)]
        self.assertNotEqual(made, [0.1 * x for x in (3, 7)])
        self.assertEqual(given[-3], [0, *[double(number) for number in by_the_words(made)]])
        self.assertEqual(given[-2:], [[0, 0], [0, double(20.0)]])

    def test_each_gauge_has_its_own(self):
        calls = [new()] + [put(g, 0, g, how(b=float(g))) for g in range(64)] + [frame(ALL, [2] * 64)]
        for g in (0, 1, 31, 32, 63):
            y = g + 2.0
            self.assertEqual(last(*calls, sums(g, 1)), [0, double(y), double(y * y), double(y), double(y)])

    def test_asking_changes_nothing(self):
        calls = calls_for([1.0, 0.5, 0.25])
        given = run(*calls, sums(5, 3), sums(5, 2), sums(5, 3), trace(5, 3), tell(32, 0), states())[-6:]
        self.assertEqual(given[0], given[2])
        self.assertEqual(given[3], [0, single(1.0), single(0.5), single(0.25)])
        self.assertEqual(given[4:], [[0, double(0.25)], [0, 0, 0, 32, 0, 0, 32]])


class Order(unittest.TestCase):
    half = 2.0 ** -53

    def test_four_sums_then_pairs(self):
        # One after another, or the pairs 0 and 2, 1 and 3, each half step beside 1 would be lost by itself.
        self.assertEqual(summed([1.0, 0.0, self.half, self.half])[0], 1.0 + 2 * self.half)
        self.assertEqual(summed([self.half, self.half, 0.0, 1.0])[0], 1.0 + 2 * self.half)
        self.assertEqual(summed([1.0, self.half, self.half, 0.0])[0], 1.0)
        self.assertEqual(summed([1.0, self.half, 0.0, self.half])[0], 1.0)
        self.assertEqual(summed([self.half, 1.0, self.half, 0.0])[0], 1.0)

    def test_the_number_after_the_fourth_goes_to_the_first_sum(self):
        self.assertEqual(summed([self.half, 0.0, 0.0, 0.0, self.half, 1.0])[0], 1.0 + 2 * self.half)
        self.assertEqual(summed([1.0, 0.0, 0.0, 0.0, self.half, self.half])[0], 1.0)
        self.assertEqual(summed([1.0, 0.0, 0.0, 0.0, 0.0, self.half, self.half, 0.0])[0], 1.0)
        self.assertEqual(summed([1.0, 0.0, 0.0, 0.0, 0.0, 0.0, self.half, self.half])[0], 1.0 + 2 * self.half)

    def test_it_is_counted_from_the_oldest_of_the_n(self):
        # The one before them is left out, and shifts nothing.
        values = [1.0, 0.0, self.half, self.half]
        for before in range(1, 6):
            self.assertEqual(summed([2.0] * before + values, 4)[0], 1.0 + 2 * self.half, before)

    def test_ties_within_a_sum(self):
        # The numbers 0, 4 and 8 are of one sum: 1 and half a step, then 1 and a step and a half.
        step = 2 * self.half
        self.assertEqual(summed([1.0, 0.0, 0.0, 0.0, self.half])[0], 1.0)
        self.assertEqual(summed([1.0, 0.0, 0.0, 0.0, self.half * 1.5])[0], 1.0 + step)
        self.assertEqual(summed([1.0, 0.0, 0.0, 0.0, step, 0.0, 0.0, 0.0, self.half])[0], 1.0 + 2 * step)
        self.assertEqual(summed([1.0, 0.0, 0.0, 0.0, self.half, 0.0, 0.0, 0.0, self.half])[0], 1.0)
        self.assertEqual(summed([-1.0, 0.0, 0.0, 0.0, -self.half])[0], -1.0)
        self.assertEqual(summed([-1.0, 0.0, 0.0, 0.0, -step, 0.0, 0.0, 0.0, -self.half])[0], -1.0 - 2 * step)

    def test_ties_between_sums(self):
        step = 2 * self.half
        self.assertEqual(summed([1.0, self.half])[0], 1.0)
        self.assertEqual(summed([1.0, step, self.half])[0], 1.0 + 2 * step)
        self.assertEqual(summed([-1.0, -step, -self.half])[0], -1.0 - 2 * step)
        self.assertEqual(summed([1.0, 0.0, self.half * 1.5, 0.0])[0], 1.0 + step)

    def test_order_and_ties_of_squares(self):
        # 2^-27 squared is a quarter of a step beside 1, 2^-26 squared a whole one: two quarters are a tie, three go up.
        quarter, whole = 2.0 ** -27, 2.0 ** -26
        step = 2 * self.half
        self.assertEqual(summed([1.0, whole])[1], 1.0 + step)
        self.assertEqual(summed([1.0, quarter])[1], 1.0)
        self.assertEqual(summed([1.0, 0.0, quarter, quarter])[1], 1.0)
        self.assertEqual(summed([1.0, 0.0, quarter, quarter, 0.0, 0.0, quarter])[1], 1.0 + step)
        self.assertEqual(summed([1.0, whole, quarter, quarter])[1], 1.0 + 2 * step)
        self.assertEqual(summed([1.0, quarter, quarter, quarter])[1], 1.0)
        self.assertEqual(summed([1.0, 0.0, 0.0, 0.0, quarter, 0.0, 0.0, 0.0, quarter, 0.0, 0.0, 0.0, quarter])[1], 1.0)
        self.assertEqual(summed([1.0, 0.0, 0.0, 0.0, whole, 0.0, 0.0, 0.0, -whole])[1], 1.0 + 2 * step)
        self.assertEqual(summed([-1.0, 0.0, quarter, -quarter, 0.0, 0.0, -quarter])[1], 1.0 + step)

    def test_by_chance_against_the_words(self):
        chance = random.Random(13)
        for i in range(120):
            values = [chance.choice((1, -1)) * chance.randrange(2 ** 23, 2 ** 24) * 2.0 ** chance.randrange(-60, -21)
                      for j in range(chance.choice((1, 2, 3, 4, 5, 6, 7, 8, 9, 40)))]
            self.assertEqual(summed(values), by_the_words(values), values)

    def test_by_chance_the_order_counts(self):
        # So that what is above would see another order: for many of them the sum of all in a row is another.
        chance = random.Random(14)
        differ = 0
        for i in range(60):
            values = [chance.randrange(2 ** 23, 2 ** 24) * 2.0 ** chance.randrange(-60, -21) for j in range(9)]
            row = 0.0
            for value in values:
                row = added(row, value)
            differ += row != by_the_words(values)[0]
        self.assertGreater(differ, 10)


class Edges(unittest.TestCase):
    def test_a_0_has_no_sign(self):
        for values in ([0.0], [5.0, -5.0], [-5.0, 5.0], [0.0, 0.0, 0.0, 0.0, 0.0], [-1.0, 0.0, 1.0, 0.0],
                       [1.0, 0.0, 0.0, 0.0, -1.0]):
            given = last(*calls_for(values), sums(5, len(values)))
            self.assertEqual(given[1], 0, values)
        self.assertEqual(last(*calls_for([0.0]), sums(5, 1)), [0, 0, 0, 0, 0])
        self.assertEqual(last(new(), put(5, 0, 0, how(a=-1.0)), frame(32, [0]), sums(5, 1)), [0, 0, 0, 0, 0])
        self.assertEqual(last(*calls_for([-1.0, 0.0]), sums(5, 2))[4], 0)
        self.assertEqual(last(*calls_for([1.0, 0.0]), sums(5, 2))[3], 0)

    def test_the_smallest(self):
        # A value is a whole multiple of 2^-112, and so a single of no smaller magnitude but 0.
        smallest = math.nextafter(2.0 ** -60, 1.0)
        for sign in (1.0, -1.0):
            calls = [new(), put(5, 0, 0, how(a=sign * smallest, b=-sign * 2.0 ** -60))]
            y = sign * 2.0 ** -112
            for n in (1, 2, 4, 5, 9):
                given = last(*calls, *[frame(32, [1])] * n, sums(5, n))
                self.assertEqual(given, [0, double(n * y), double(n * y * y), double(y), double(y)], (sign, n))

    def test_the_smallest_beside_others(self):
        smallest = math.nextafter(2.0 ** -60, 1.0)
        calls = [new(), put(5, 0, 0, how(a=smallest, b=-2.0 ** -60))]
        for row in ((0, 1), (1, 0), (0, 1, 2), (1, 1, 1, 1, 0), (200, 1, 1, 1, 1, 0, 255, 1)):
            values = [made_single(float(Fraction(smallest) * x - Fraction(2.0 ** -60))) for x in row]
            given = last(*calls, *[frame(32, [x]) for x in row], sums(5, len(row)))
            self.assertEqual(given, [0, *[double(number) for number in by_the_words(values)]], row)

    def test_the_largest(self):
        largest = math.nextafter(2.0 ** 60, 0.0)
        calls = [new(), put(5, 6, 0, how(a=-largest, b=-largest))]
        given = last(*calls, *[frame(32, [255] * 8)] * 256, sums(5, 256))
        y = double(-2.0 ** 124)
        self.assertEqual(given, [0, double(-2.0 ** 132), double(2.0 ** 256), y, y])


class Refused(unittest.TestCase):
    def test_no_gauge(self):
        calls = [new()] + [put(g, 0, 0, how()) for g in range(64)] + [frame(ALL, [1])]
        for g in (-1, 64, 65, -64, 127, INT_MIN, INT_MAX):
            self.assertEqual(last(*calls, sums(g, 1)), [-2], g)

    def test_n_not_1_to_256(self):
        calls = calls_for([1.0] * 260)
        for n in (0, -1, 257, 258, 260, -256, INT_MIN, INT_MAX):
            self.assertEqual(last(*calls, sums(5, n)), [-2], n)

    def test_not_so_many(self):
        for count in range(4):
            given = run(*calls_for([1.0] * count), sums(5, count + 1), sums(5, count + 2), sums(5, 256))
            self.assertEqual(given[-3:], [[-3]] * 3, count)
        given = run(*calls_for([1.0] * 255), sums(5, 256), sums(5, 255))
        self.assertEqual(given[-2:], [[-3], [0, double(255.0), double(255.0), double(1.0), double(1.0)]])

    def test_not_set(self):
        for g in (0, 62, 63):
            self.assertEqual(run(*calls_for([1.0]), sums(g, 1), sums(g, 256))[-2:], [[-3], [-3]])

    def test_wrong_comes_before_impossible(self):
        for g, n in ((0, 0), (0, 257), (64, 1), (-1, 256), (64, 0), (5, 0), (5, 257), (5, -1)):
            self.assertEqual(last(new(), put(5, 0, 0, how()), sums(g, n)), [-2], (g, n))
            self.assertEqual(last(new(), sums(g, n)), [-2], (g, n))

    def test_nothing_is_done_then(self):
        given = run(*calls_for([1.0]), sums(5, 2), sums(5, 0), sums(64, 1), sums(5, 1), trace(5, 1), states())
        one = double(1.0)
        self.assertEqual(given[3:], [[-3], [-2], [-2], [0, one, one, one, one], [0, single(1.0)],
                                     [0, 0, 0, 32, 0, 0, 32]])


if __name__ == "__main__":
    unittest.main()
