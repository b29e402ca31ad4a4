"""gb_point: promise 7."""

import math
import unittest
from fractions import Fraction

from tests.helper import INT_MAX, INT_MIN, NO_DOUBLE
from tests.helper import bounds, bytes_of, double, frame, how, last, new, point, put, raw, run, tell

BELOW_THE_LIMIT = math.nextafter(2.0 ** 125, 0.0)


def pointed(kind, row, y):
    return last(new(), put(0, kind, 0, row), point(0, double(y)))


def sent(kind, number, other=0):
    """The answer with this number's bytes."""
    row = bytes_of(number, kind)
    return [other] + row + [0] * (8 - len(row))


class Pointed(unittest.TestCase):
    def test_ordinary(self):
        self.assertEqual(pointed(2, how(a=0.5, b=-40.0), 10.0), sent(2, 100))
        self.assertEqual(pointed(3, how(a=-2.0, b=1.0), 601.0), sent(3, -300))

    def test_bytes_written_out(self):
        self.assertEqual(pointed(0, how(), 18.0), [0, 18, 0, 0, 0, 0, 0, 0, 0])
        self.assertEqual(pointed(1, how(), -2.0), [0, 254, 0, 0, 0, 0, 0, 0, 0])
        self.assertEqual(pointed(2, how(), 258.0), [0, 2, 1, 0, 0, 0, 0, 0, 0])
        self.assertEqual(pointed(10, how(), 258.0), [0, 1, 2, 0, 0, 0, 0, 0, 0])
        self.assertEqual(pointed(3, how(), -2.0), [0, 254, 255, 0, 0, 0, 0, 0, 0])
        self.assertEqual(pointed(11, how(), -2.0), [0, 255, 254, 0, 0, 0, 0, 0, 0])
        self.assertEqual(pointed(4, how(), 16909060.0), [0, 4, 3, 2, 1, 0, 0, 0, 0])
        self.assertEqual(pointed(12, how(), 16909060.0), [0, 1, 2, 3, 4, 0, 0, 0, 0])
        self.assertEqual(pointed(6, how(), 258.0), [0, 2, 1, 0, 0, 0, 0, 0, 0])
        self.assertEqual(pointed(14, how(), 258.0), [0, 0, 0, 0, 0, 0, 0, 1, 2])
        self.assertEqual(pointed(15, how(), -2.0), [0] + [255] * 7 + [254])

    def test_the_ends_of_each_kind(self):
        for kind in range(16):
            low, high = bounds(kind)
            self.assertEqual(pointed(kind, how(), float(low)), sent(kind, low), kind)
            self.assertEqual(pointed(kind, how(), float(low - 1000000)), sent(kind, low, 1), kind)
            if high < 2 ** 53:
                self.assertEqual(pointed(kind, how(), float(high)), sent(kind, high), kind)
                self.assertEqual(pointed(kind, how(), float(high + 1)), sent(kind, high, 1), kind)
                self.assertEqual(pointed(kind, how(), float(low - 1)), sent(kind, low, 1), kind)
                self.assertEqual(pointed(kind, how(), high + 0.5), sent(kind, high, 1), kind)
                self.assertEqual(pointed(kind, how(), high + 0.25), sent(kind, high), kind)
                self.assertEqual(pointed(kind, how(), low - 0.5), sent(kind, low), kind)
                self.assertEqual(pointed(kind, how(), low - 0.75), sent(kind, low, 1), kind)
            else:
                self.assertEqual(pointed(kind, how(), float(high + 1)), sent(kind, high, 1), kind)
                below = int(math.nextafter(float(high + 1), 0.0))
                self.assertEqual(pointed(kind, how(), float(below)), sent(kind, below), kind)
                self.assertEqual(pointed(kind, how(), -2.0 ** 64), sent(kind, low, 1), kind)

    def test_far_beyond_each_kind(self):
        for kind in range(16):
            low, high = bounds(kind)
            for a in (1.0, 2.0 ** -60, math.nextafter(2.0 ** 60, 0.0)):
                self.assertEqual(pointed(kind, how(a=a), BELOW_THE_LIMIT), sent(kind, high, 1))
                self.assertEqual(pointed(kind, how(a=a), -BELOW_THE_LIMIT), sent(kind, low, 1))
                self.assertEqual(pointed(kind, how(a=-a), BELOW_THE_LIMIT), sent(kind, low, 1))
                self.assertEqual(pointed(kind, how(a=-a), -BELOW_THE_LIMIT), sent(kind, high, 1))

    def test_ties_go_to_the_even_one(self):
        for y, whole in ((0.5, 0), (1.5, 2), (2.5, 2), (3.5, 4), (-0.5, 0), (-1.5, -2), (-2.5, -2), (-3.5, -4)):
            self.assertEqual(pointed(1, how(), y), sent(1, whole), y)
            self.assertEqual(pointed(1, how(a=-1.0), y), sent(1, -whole), y)

    def test_beside_ties(self):
        for y, whole in ((math.nextafter(0.5, 1.0), 1), (math.nextafter(0.5, 0.0), 0), (math.nextafter(1.5, 0.0), 1),
                         (math.nextafter(2.5, 3.0), 3), (math.nextafter(-0.5, -1.0), -1), (-0.75, -1), (-1.25, -1)):
            self.assertEqual(pointed(1, how(), y), sent(1, whole), y)

    def test_what_becomes_0_is_not_another(self):
        for kind in range(16):
            for y in (-0.5, -0.25, -0.0, 0.0, 0.25, 0.5):
                self.assertEqual(pointed(kind, how(), y), sent(kind, 0), (kind, y))

    def test_the_difference_is_made_a_double(self):
        # y - b is 2^53 + 1 exactly, and 2^53 as a double.
        self.assertEqual(pointed(6, how(b=-1.0), 2.0 ** 53), sent(6, 2 ** 53))
        self.assertEqual(pointed(6, how(b=-3.0), 2.0 ** 53), sent(6, 2 ** 53 + 4))
        self.assertEqual(pointed(7, how(b=1.0), -2.0 ** 53), sent(7, -2 ** 53))
        # A third of 2^53 is made a tie, and goes down; a third of 2^53 + 1 would be one more.
        self.assertEqual(pointed(6, how(a=3.0, b=-1.0), 2.0 ** 53), sent(6, 2 ** 53 // 3))
        self.assertEqual(pointed(7, how(a=-3.0, b=-1.0), 2.0 ** 53), sent(7, -(2 ** 53 // 3)))

    def test_the_quotient_is_made_a_double(self):
        for numerator, divisor in self.quotients_made_ties():
            r = float(Fraction(numerator) / Fraction(divisor))
            self.assertEqual(pointed(4, how(a=divisor), numerator), sent(4, round(r)), (numerator, divisor))
            self.assertEqual(pointed(5, how(a=-divisor), numerator), sent(5, -round(r)), (numerator, divisor))

    def quotients_made_ties(self):
        """Pairs whose quotient goes to another whole number exactly than made a double."""
        found = []
        for i in range(1, 2000):
            divisor = 1.0 + i * 2.0 ** -52
            numerator = float(Fraction(divisor) * (Fraction(2 * i + 1, 2)))
            exact = Fraction(numerator) / Fraction(divisor)
            if round(exact) != round(float(exact)):
                found.append((numerator, divisor))
        self.assertGreater(len(found), 10)
        return found

    def test_quotients(self):
        for a in (3.0, -3.0, 0.1, -0.7, 7.0, 2.0 ** -60, 1e17, 1 / 3):
            for y in (1.0, -1.0, 100.0, 1e6, -12345.678, 2.0 ** -60, 5e-324, 1e17):
                r = float(Fraction(y) / Fraction(a))
                low, high = bounds(7)
                whole = min(max(round(r), low), high)
                self.assertEqual(pointed(7, how(a=a), y), sent(7, whole, int(whole != round(r))), (a, y))

    def test_the_smallest_numbers(self):
        largest = math.nextafter(2.0 ** 60, 0.0)
        for y in (5e-324, -5e-324, 2.0 ** -1022, math.nextafter(2.0 ** -1022, 0.0), -2.0 ** -1022, -0.0):
            for a in (2.0 ** -60, 1.0, -1.0, largest):
                self.assertEqual(pointed(0, how(a=a), y), sent(0, 0), (y, a))
                self.assertEqual(pointed(1, how(a=a), y), sent(1, 0), (y, a))
            self.assertEqual(pointed(0, how(b=-7.0), y), sent(0, 7), y)
            # Half a whole number stays a tie beside so small a number.
            self.assertEqual(pointed(0, how(b=-0.5), y), sent(0, 0), y)
            self.assertEqual(pointed(0, how(b=-1.5), y), sent(0, 2), y)

    def test_y_just_below_the_limit(self):
        self.assertEqual(pointed(6, how(a=2.0 ** 59 * 1.5), BELOW_THE_LIMIT), sent(6, 2 ** 64 - 1, 1))
        self.assertEqual(last(new(), put(0, 0, 0, how()), point(0, double(BELOW_THE_LIMIT))), sent(0, 255, 1))
        self.assertEqual(last(new(), put(0, 1, 0, how()), point(0, double(-BELOW_THE_LIMIT))), sent(1, -128, 1))

    def test_each_gauge_has_its_own(self):
        calls = [new()] + [put(g, g % 16, 0, how(a=0.5, b=float(g))) for g in range(64)]
        given = run(*calls, *[point(g, double(g + 11.0)) for g in range(64)])
        self.assertEqual(given[65:], [sent(g % 16, 22) for g in range(64)])

    def test_without_a_reading_and_with_one(self):
        calls = (new(), put(0, 0, 0, how(w=0.5)))
        given = run(*calls, point(0, double(9.0)), frame(1, [200]), point(0, double(9.0)), tell(1, 0), raw(1, 0),
                    tell(1, 2), tell(1, 3))
        self.assertEqual(given[2], sent(0, 9))
        self.assertEqual(given[4], sent(0, 9))
        self.assertEqual(given[5:], [[0, double(200.0)], [1, 200], [0, double(200.0)], [0, double(200.0)]])

    def test_it_is_no_reading(self):
        self.assertEqual(run(new(), put(0, 0, 0, how()), point(0, double(9.0)), tell(1, 0), raw(1, 0))[3:],
                         [[0, NO_DOUBLE], [0, 0]])


class Refused(unittest.TestCase):
    no_points = (
        double(2.0 ** 125), double(-2.0 ** 125), double(2.0 ** 126), double(1e308), double(-1e308),
        double(math.inf), double(-math.inf), NO_DOUBLE, NO_DOUBLE + 2 ** 63, 0x7FF0000000000001, 0xFFF0000000000001,
        2 ** 63 - 1, 2 ** 64 - 1, double(2.0 ** 125) + 1, double(math.nextafter(2.0 ** 125, math.inf)))

    def test_no_gauge(self):
        calls = [new()] + [put(g, 0, 0, how()) for g in range(64)]
        for g in (-1, 64, -64, 65, 127, INT_MIN, INT_MAX):
            self.assertEqual(last(*calls, point(g, double(1.0))), [-2], g)
            self.assertEqual(last(new(), point(g, double(1.0))), [-2], g)

    def test_no_point(self):
        for y in self.no_points:
            self.assertEqual(last(new(), put(0, 0, 0, how()), point(0, y)), [-2], y)

    def test_not_set(self):
        for g in (0, 1, 62, 63):
            self.assertEqual(last(new(), put(5, 0, 0, how()), point(g, double(1.0))), [-3])

    def test_a_of_0(self):
        for y in (0.0, 1.0, -1.0, 5.0):
            self.assertEqual(last(new(), put(0, 0, 0, how(a=0.0, b=5.0)), point(0, double(y))), [-3])

    def test_wrong_comes_before_impossible(self):
        for y in self.no_points:
            self.assertEqual(last(new(), point(0, y)), [-2])
            self.assertEqual(last(new(), put(0, 0, 0, how(a=0.0)), point(0, y)), [-2])
            self.assertEqual(last(new(), point(64, y)), [-2])

    def test_nothing_is_done_then(self):
        given = run(new(), put(0, 0, 0, how()), frame(1, [7]), point(0, NO_DOUBLE), point(1, 0), point(64, 0),
                    tell(1, 0), raw(3, 0), point(0, double(8.0)))
        self.assertEqual(given[3:], [[-2], [-3], [-2], [0, double(7.0)], [1, 7, 0], sent(0, 8)])


if __name__ == "__main__":
    unittest.main()
