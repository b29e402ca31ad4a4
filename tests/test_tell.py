"""gb_tell: promise 4, and how a value comes to be: made a double, made a single, smoothed, without a sign at 0."""

import math
import unittest
from fractions import Fraction

from tests.helper import ALL, INT_MAX, INT_MIN, NO_DOUBLE, NO_SINGLE
from tests.helper import bytes_of, double, frame, how, last, new, number_of, put, raw, run, single, tell


def told(kind, row, numbers, form):
    """What gauge 0 tells after readings of these numbers."""
    frames = [frame(1, bytes_of(number, kind)) for number in numbers]
    return last(new(), put(0, kind, 0, row), *frames, tell(1, form))


class Forms(unittest.TestCase):
    def test_each(self):
        row = how(a=0.1, b=-3.0, w=0.25)
        values = [float(Fraction(0.1) * x - 3) for x in (100, 20, 250, 90)]
        smoothed = values[0]
        for y in values[1:]:
            smoothed = float(Fraction(smoothed) + Fraction(y - smoothed) * Fraction(0.25))
        numbers = (100, 20, 250, 90)
        self.assertEqual(told(0, row, numbers, 0), [0, double(values[3])])
        self.assertEqual(told(0, row, numbers, 1), [0, single(values[3])])
        self.assertEqual(told(0, row, numbers, 2), [0, double(smoothed)])
        self.assertEqual(told(0, row, numbers, 3), [0, double(values[1])])
        self.assertEqual(told(0, row, numbers, 4), [0, double(values[2])])

    def test_no_reading_yet(self):
        for form in range(5):
            nothing = NO_SINGLE if form == 1 else NO_DOUBLE
            given = run(new(), put(0, 0, 0, how()), tell(1, form), tell(2, form), tell(ALL, form), tell(0, form))
            self.assertEqual(given[2:], [[0, nothing], [0, nothing], [0] + [nothing] * 64, [0]])

    def test_some_with_and_some_without(self):
        calls = (new(), put(0, 0, 0, how()), put(5, 0, 0, how()), put(63, 0, 1, how()), frame(1 + 2 ** 63, [3, 4]))
        given = run(*calls, tell(ALL, 1), tell(2 ** 63 + 2 ** 5, 0), tell(2 ** 63 + 1, 0))
        self.assertEqual(given[5], [0, single(3.0)] + [NO_SINGLE] * 62 + [single(4.0)])
        self.assertEqual(given[6:], [[0, NO_DOUBLE, double(4.0)], [0, double(3.0), double(4.0)]])

    def test_the_order_of_the_gauges(self):
        calls = [new()] + [put(g, 0, g, how()) for g in reversed(range(64))]
        given = last(*calls, frame(ALL, list(range(64))), tell(ALL, 0))
        self.assertEqual(given, [0] + [double(float(g)) for g in range(64)])

    def test_no_form(self):
        for form in (-1, 5, 6, 8, 256, INT_MIN, INT_MAX):
            for which in (0, 1, 2, ALL):
                given = run(new(), put(0, 0, 0, how()), frame(1, [3]), tell(which, form), raw(1, 0))
                self.assertEqual(given[3:], [[-2], [1, 3]])

    def test_telling_changes_nothing(self):
        calls = (new(), put(0, 0, 0, how(w=0.5)), frame(1, [8]), frame(1, [16]))
        given = run(*calls, *[tell(1, form) for form in (0, 1, 2, 3, 4, 4, 3, 2, 1, 0)])
        self.assertEqual(given[4:9], given[:8:-1])


class Value(unittest.TestCase):
    def test_the_number_is_made_a_double_first(self):
        # With the number kept whole 2^53 + 1 + 1/2 would go up.
        self.assertEqual(told(6, how(b=0.5), [2 ** 53 + 1], 0), [0, double(2.0 ** 53)])
        self.assertEqual(told(7, how(b=-0.5), [-2 ** 53 - 1], 0), [0, double(-2.0 ** 53)])

    def test_ties_of_the_number(self):
        for number, rounded in ((2 ** 53 + 1, 2 ** 53), (2 ** 53 + 3, 2 ** 53 + 4), (2 ** 53 + 2, 2 ** 53 + 2),
                                (2 ** 54 + 2, 2 ** 54), (2 ** 54 + 3, 2 ** 54 + 4), (2 ** 54 + 6, 2 ** 54 + 8),
                                (2 ** 64 - 1, 2 ** 64), (2 ** 64 - 1024, 2 ** 64), (2 ** 64 - 1025, 2 ** 64 - 2048),
                                (2 ** 53 - 1, 2 ** 53 - 1)):
            self.assertEqual(told(6, how(), [number], 0), [0, double(float(rounded))], number)
        for number, rounded in ((-2 ** 53 - 1, -2 ** 53), (-2 ** 53 - 3, -2 ** 53 - 4), (-2 ** 63, -2 ** 63),
                                (2 ** 63 - 1, 2 ** 63)):
            self.assertEqual(told(15, how(), [number], 0), [0, double(float(rounded))], number)

    def test_made_a_double_once(self):
        # The product made a double by itself would be 1, and the value 0.
        y = float(Fraction(0.1) * 10 - 1)
        self.assertNotEqual(y, 0.1 * 10 - 1)
        self.assertEqual(told(0, how(a=0.1, b=-1.0), [10], 0), [0, double(y)])

    def test_ties_of_the_value(self):
        # One step of 1 is 2^-52: half a step is a tie, with the even one on either side.
        step = 2.0 ** -52
        for b, y in ((step / 2, 1.0), (step * 0.75, 1.0 + step), (-step / 4, 1.0), (-step * 3 / 4, 1.0 - step)):
            self.assertEqual(told(0, how(b=b), [1], 0), [0, double(y)], b)
        self.assertEqual(told(0, how(a=1.0 + step, b=step / 2), [1], 0), [0, double(1.0 + 2 * step)])
        self.assertEqual(told(1, how(a=1.0 + step, b=-step / 2), [-1], 0), [0, double(-1.0 - 2 * step)])
        self.assertEqual(told(1, how(b=-step / 2), [-1], 0), [0, double(-1.0)])

    def test_beside_a_tie(self):
        step = 2.0 ** -52
        for b, y in ((math.nextafter(step / 2, 1.0), 1.0 + step), (math.nextafter(step / 2, 0.0), 1.0)):
            self.assertEqual(told(0, how(b=b), [1], 0), [0, double(y)], b)

    def test_up_to_the_next_power_of_2(self):
        below_2 = math.nextafter(2.0, 0.0)
        self.assertEqual(told(0, how(a=below_2, b=2.0 ** -53), [1], 0), [0, double(2.0)])

    def test_the_largest_and_the_smallest(self):
        largest = math.nextafter(2.0 ** 60, 0.0)
        self.assertEqual(told(6, how(a=largest, b=largest), [2 ** 64 - 1], 0),
                         [0, double(float(Fraction(largest) * 2 ** 64 + Fraction(largest)))])
        self.assertEqual(told(7, how(a=largest, b=-largest), [-2 ** 63], 0),
                         [0, double(float(-Fraction(largest) * 2 ** 63 - Fraction(largest)))])
        smallest = math.nextafter(2.0 ** -60, 1.0)
        self.assertEqual(told(0, how(a=smallest, b=-2.0 ** -60), [1], 0), [0, double(2.0 ** -112)])
        self.assertEqual(told(0, how(a=2.0 ** -60, b=-smallest), [1], 0), [0, double(-2.0 ** -112)])

    def test_a_of_0(self):
        self.assertEqual(told(0, how(a=0.0, b=2.5), [200], 0), [0, double(2.5)])

    def test_a_0_has_no_sign(self):
        for row, number in ((how(a=-1.0), 0), (how(a=0.0), 5), (how(a=1.0, b=-5.0), 5), (how(a=-1.0, b=5.0), 5),
                            (how(a=-3.0), 0)):
            for form in range(5):
                self.assertEqual(told(0, row, [number], form), [0, 0], (number, form))
        self.assertEqual(told(1, how(a=0.0), [-5], 0), [0, 0])


class Single(unittest.TestCase):
    def test_ties(self):
        # One step of 1 as a single is 2^-23.
        step = 2.0 ** -23
        for y, made in ((1.0 + step / 2, 1.0), (1.0 + step * 1.5, 1.0 + 2 * step), (1.0 + step * 0.75, 1.0 + step),
                        (1.0 + step / 4, 1.0), (-1.0 - step / 2, -1.0), (-1.0 - step * 1.5, -1.0 - 2 * step),
                        (math.nextafter(1.0 + step / 2, 2.0), 1.0 + step), (2.0 - step / 2, 2.0),
                        (math.nextafter(1.0 + step * 1.5, 0.0), 1.0 + step)):
            self.assertEqual(told(0, how(a=y), [1], 1), [0, single(made)], y)

    def test_it_is_made_of_the_double(self):
        # Exactly it is a little above the tie; the double is the tie.
        row = how(a=1.0 + 2.0 ** -24, b=2.0 ** -60)
        self.assertEqual(told(0, row, [1], 0), [0, double(1.0 + 2.0 ** -24)])
        self.assertEqual(told(0, row, [1], 1), [0, single(1.0)])

    def test_large_and_small(self):
        largest = math.nextafter(2.0 ** 60, 0.0)
        self.assertEqual(told(6, how(a=largest, b=largest), [2 ** 64 - 1], 1), [0, single(2.0 ** 124)])
        smallest = math.nextafter(2.0 ** -60, 1.0)
        self.assertEqual(told(0, how(a=smallest, b=-2.0 ** -60), [1], 1), [0, single(2.0 ** -112)])
        self.assertEqual(told(0, how(a=2.0 ** -60, b=-smallest), [1], 1), [0, single(-2.0 ** -112)])

    def test_32_bits_of_a_number_below_0(self):
        self.assertEqual(told(1, how(), [-1], 1), [0, 0xBF800000])
        self.assertEqual(told(1, how(), [1], 1), [0, 0x3F800000])


class Smoothed(unittest.TestCase):
    def test_the_first_reading(self):
        self.assertEqual(told(0, how(w=0.125), [77], 2), [0, double(77.0)])

    def test_by_halves(self):
        self.assertEqual(told(0, how(w=0.5), [100, 0], 2), [0, double(50.0)])
        self.assertEqual(told(0, how(w=0.5), [100, 0, 200], 2), [0, double(125.0)])
        self.assertEqual(told(0, how(w=0.25), [100, 200], 2), [0, double(125.0)])

    def test_the_difference_is_made_a_double(self):
        # From 1 to 2^53 + 2 it is 2^53 as a double; exactly it would lead to 2^52 + 3/2, and so to 2^52 + 2.
        self.assertEqual(told(6, how(w=0.5), [1, 2 ** 53 + 2], 2), [0, double(2.0 ** 52 + 1)])
        self.assertEqual(told(7, how(w=0.5), [-1, -2 ** 53 - 2], 2), [0, double(-2.0 ** 52 - 1)])

    def test_w_of_1_still_goes_through_the_difference(self):
        # From 2^60 to 1 the difference is -2^60 as a double, so what is left is 0, not 1.
        self.assertEqual(told(6, how(w=1.0), [2 ** 60, 1], 2), [0, 0])
        self.assertEqual(told(6, how(w=1.0), [2 ** 60, 1], 0), [0, double(1.0)])
        self.assertEqual(told(6, how(w=1.0), [2 ** 60, 1, 1], 2), [0, double(1.0)])
        self.assertEqual(told(0, how(w=1.0), [200, 3], 2), [0, double(3.0)])

    def test_each_from_another(self):
        for x in range(1, 256):
            s = float(Fraction(x) + Fraction(7 - x) * Fraction(0.1))
            self.assertEqual(told(0, how(w=0.1), [x, 7], 2), [0, double(s)])

    def test_made_a_double_once(self):
        # s - s (1 - 2^-50) is s 2^-50 to the last digit; the product made a double first would lose some.
        a = number_of(double(2.0 ** -10) + 12345678901)
        w = 1.0 - 2.0 ** -50
        self.assertNotEqual(a - a * w, a * 2.0 ** -50)
        self.assertEqual(told(0, how(a=a, w=w), [1, 0], 2), [0, double(a * 2.0 ** -50)])

    def test_ties(self):
        # s + d w is 1 + half a step, then 1 + a step and a half.
        step = 2.0 ** -52
        self.assertEqual(told(0, how(b=1.0, w=step / 2), [0, 1], 2), [0, double(1.0)])
        self.assertEqual(told(0, how(b=1.0, w=step * 1.5), [0, 1], 2), [0, double(1.0 + 2 * step)])
        self.assertEqual(told(0, how(b=1.0, w=step * 0.75), [0, 1], 2), [0, double(1.0 + step)])

    def shrunk(self, m, times, sign=1.0):
        """The first value is m 2^-112, then come values of 0: each is a factor of 2^-50 for s."""
        a = sign * math.ldexp(float(m), -112)
        row = how(a=a, w=1.0 - 2.0 ** -50)
        return told(0, row, [1] + [0] * times, 2)

    def test_small_ones(self):
        m = 2 ** 52 + 0x123456789
        self.assertEqual(self.shrunk(m, 1), [0, double(math.ldexp(float(m), -162))])
        self.assertEqual(self.shrunk(m, 19), [0, double(math.ldexp(float(m), -1062))])
        self.assertEqual(self.shrunk(m, 20), [0, m >> 38])

    def test_ties_of_small_ones(self):
        # After 20 times m 2^-38 smallest steps are left.
        for steps, rest, made in ((2 ** 14 + 4, 2 ** 37, 2 ** 14 + 4), (2 ** 14 + 5, 2 ** 37, 2 ** 14 + 6),
                                  (2 ** 14 + 4, 2 ** 37 + 1, 2 ** 14 + 5), (2 ** 14 + 5, 2 ** 37 - 1, 2 ** 14 + 5)):
            self.assertEqual(self.shrunk(steps * 2 ** 38 + rest, 20), [0, made])
            self.assertEqual(self.shrunk(steps * 2 ** 38 + rest, 20, -1.0), [0, 2 ** 63 + made])

    def test_what_is_too_small_becomes_a_0_without_a_sign(self):
        m = 2 ** 52 + 99
        for times in (21, 22, 30):
            self.assertEqual(self.shrunk(m, times), [0, 0])
            self.assertEqual(self.shrunk(m, times, -1.0), [0, 0])

    def test_the_smallest_and_the_ties_beside_it(self):
        # 21 values of 0 are a factor of 2^-1050: 2^-24 comes to one smallest step.
        half = 2.0 ** -25
        for first, made in ((2 * half, 1), (half, 0), (half * (1 + 2.0 ** -40), 1), (3 * half, 2), (4 * half, 2),
                            (5 * half, 2), (half * (1 - 2.0 ** -40), 0)):
            w = 1.0 - 2.0 ** -50
            self.assertEqual(told(0, how(a=first, w=w), [1] + [0] * 21, 2), [0, made])
            below = made + 2 ** 63 if made > 0 else 0
            self.assertEqual(told(0, how(a=-first, w=w), [1] + [0] * 21, 2), [0, below])

    def test_back_to_0_has_no_sign(self):
        self.assertEqual(told(1, how(w=1.0), [-5, 0], 2), [0, 0])


class LeastAndGreatest(unittest.TestCase):
    def test_one_reading(self):
        for form in (3, 4):
            self.assertEqual(told(1, how(), [-7], form), [0, double(-7.0)])
            self.assertEqual(told(1, how(), [7], form), [0, double(7.0)])

    def test_they_stay(self):
        numbers = [3, -9, 20, 5, -8, 19]
        self.assertEqual(told(1, how(), numbers, 3), [0, double(-9.0)])
        self.assertEqual(told(1, how(), numbers, 4), [0, double(20.0)])

    def test_of_values_not_of_numbers(self):
        numbers = [3, 9, 20]
        self.assertEqual(told(1, how(a=-1.0), numbers, 3), [0, double(-20.0)])
        self.assertEqual(told(1, how(a=-1.0), numbers, 4), [0, double(-3.0)])

    def test_all_below_or_above_0(self):
        self.assertEqual(told(1, how(), [-3, -9], 4), [0, double(-3.0)])
        self.assertEqual(told(1, how(), [3, 9], 3), [0, double(3.0)])

    def test_of_values_not_smoothed(self):
        self.assertEqual(told(0, how(w=0.5), [100, 0, 200], 3), [0, 0])
        self.assertEqual(told(0, how(w=0.5), [100, 0, 200], 4), [0, double(200.0)])

    def test_over_many_readings(self):
        numbers = [255, 0] + [100 + i % 3 for i in range(280)]
        self.assertEqual(told(0, how(), numbers, 3), [0, 0])
        self.assertEqual(told(0, how(), numbers, 4), [0, double(255.0)])


if __name__ == "__main__":
    unittest.main()
