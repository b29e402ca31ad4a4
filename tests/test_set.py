"""gb_set: promise 2, and which numbers are measures."""

import math
import unittest

from tests.helper import A, ALL, B, H, INT_MAX, INT_MIN, K, L0, L1, L2, L3, LO, NO_DOUBLE, W
from tests.helper import bytes_of, double, frame, how, how_with, last, new, point, put, raw, run, tell

SMALLEST = 2.0 ** -60
LARGEST = math.nextafter(2.0 ** 60, 0.0)
TOO_SMALL = math.nextafter(SMALLEST, 0.0)
TOO_LARGE = 2.0 ** 60
NO_MEASURES = (
    double(-0.0), double(TOO_SMALL), double(-TOO_SMALL), double(TOO_LARGE), double(-TOO_LARGE),
    1, 2 ** 63 + 1, 2 ** 52 - 1, 2 ** 52, double(1e300), double(-1e300),
    double(math.inf), double(-math.inf), NO_DOUBLE, NO_DOUBLE + 2 ** 63, 0x7FF0000000000001, 2 ** 64 - 1,
)


def answer_to(g, kind, place, row):
    return last(new(), put(g, kind, place, row))


class Accepted(unittest.TestCase):
    def test_every_gauge(self):
        for g in range(64):
            self.assertEqual(answer_to(g, 0, 0, how()), [0])

    def test_every_kind_at_the_first_and_the_last_place(self):
        for kind in range(16):
            size = 1 << (kind // 2 % 4)
            self.assertEqual(answer_to(0, kind, 0, how()), [0])
            self.assertEqual(answer_to(0, kind, 1024 - size, how()), [0])
            self.assertEqual(answer_to(0, kind, 1024 - size - 1, how()), [0])

    def test_the_largest_and_smallest_measures(self):
        for place in (A, B, LO):
            for number in (SMALLEST, -SMALLEST, LARGEST, -LARGEST, 0.0):
                self.assertEqual(answer_to(0, 0, 0, how_with(place, double(number))), [0], (place, number))
        for place in (H, K):
            for number in (SMALLEST, LARGEST):
                self.assertEqual(answer_to(0, 0, 0, how_with(place, double(number))), [0], (place, number))
        for limits in ((-LARGEST, -SMALLEST, SMALLEST, LARGEST), (-SMALLEST, 0.0, 0.0, SMALLEST)):
            self.assertEqual(answer_to(0, 0, 0, how(limits=limits)), [0])

    def test_w_from_the_smallest_to_1(self):
        for w in (SMALLEST, 0.5, math.nextafter(1.0, 0.0), 1.0):
            self.assertEqual(answer_to(0, 0, 0, how(w=w)), [0], w)

    def test_equal_limits(self):
        for limits in ((0.0, 0.0, 0.0, 0.0), (5.0, 5.0, 5.0, 5.0), (-7.0, -7.0, -7.0, -7.0),
                       (1.0, 1.0, 2.0, 3.0), (1.0, 2.0, 2.0, 3.0), (1.0, 2.0, 3.0, 3.0)):
            self.assertEqual(answer_to(0, 0, 0, how(limits=limits)), [0], limits)

    def test_limits_below_0_are_ordered_as_numbers(self):
        self.assertEqual(answer_to(0, 0, 0, how(limits=(-4.0, -3.0, -2.0, -1.0))), [0])
        self.assertEqual(answer_to(0, 0, 0, how(limits=(-1.0, -2.0, -3.0, -4.0))), [-2])

    def test_h_at_0(self):
        self.assertEqual(answer_to(0, 0, 0, how(h=0.0)), [0])


class Refused(unittest.TestCase):
    def test_no_gauge(self):
        for g in (-1, 64, 65, 128, -64, INT_MIN, INT_MAX):
            self.assertEqual(answer_to(g, 0, 0, how()), [-2], g)

    def test_no_kind(self):
        for kind in (-1, 16, 17, -16, 32, INT_MIN, INT_MAX):
            self.assertEqual(answer_to(0, kind, 0, how()), [-2], kind)

    def test_no_place(self):
        for kind in range(16):
            size = 1 << (kind // 2 % 4)
            for place in (-1, -size, INT_MIN, 1024 - size + 1, 1024, 1025, INT_MAX):
                self.assertEqual(answer_to(0, kind, place, how()), [-2], (kind, place))

    def test_no_measure_at_any_place_of_how(self):
        for place in range(10):
            for bits in NO_MEASURES:
                self.assertEqual(answer_to(0, 0, 0, how_with(place, bits)), [-2], (place, bits))

    def test_limits_must_be_measures_even_in_order(self):
        for limits in ((-TOO_LARGE, 0.0, 0.0, 0.0), (0.0, 0.0, 0.0, TOO_LARGE), (-TOO_SMALL, 0.0, 0.0, 0.0),
                       (0.0, 0.0, 0.0, TOO_SMALL), (0.0, 0.0, TOO_SMALL, 1.0), (-1.0, -TOO_SMALL, 0.0, 0.0),
                       (-0.0, 0.0, 0.0, 0.0), (0.0, -0.0, 0.0, 0.0), (0.0, 0.0, -0.0, 0.0), (0.0, 0.0, 0.0, -0.0)):
            self.assertEqual(answer_to(0, 0, 0, how(limits=limits)), [-2], limits)

    def test_w_must_be_above_0_and_at_most_1(self):
        for w in (0.0, -SMALLEST, -0.5, -1.0, math.nextafter(1.0, 2.0), 2.0, LARGEST):
            self.assertEqual(answer_to(0, 0, 0, how(w=w)), [-2], w)

    def test_limits_in_disorder(self):
        for limits in ((1.0, 0.0, 2.0, 3.0), (0.0, 2.0, 1.0, 3.0), (0.0, 1.0, 3.0, 2.0),
                       (math.nextafter(1.0, 2.0), 1.0, 2.0, 3.0), (0.0, math.nextafter(1.0, 2.0), 1.0, 3.0),
                       (0.0, 1.0, math.nextafter(2.0, 3.0), 2.0), (0.0, 0.0, 0.0, -SMALLEST)):
            self.assertEqual(answer_to(0, 0, 0, how(limits=limits)), [-2], limits)

    def test_h_below_0(self):
        for h in (-SMALLEST, -1.0, -LARGEST):
            self.assertEqual(answer_to(0, 0, 0, how(h=h)), [-2], h)

    def test_k_not_above_0(self):
        for k in (0.0, -SMALLEST, -1.0):
            self.assertEqual(answer_to(0, 0, 0, how(k=k)), [-2], k)

    def test_the_order_of_how(self):
        # Each number is right at its own place alone.
        row = how(a=-3.0, b=-5.0, w=0.5, limits=(-9.0, -8.0, -7.0, -6.0), h=2.0, lo=-4.0, k=3.0)
        self.assertEqual(answer_to(0, 0, 0, row), [0])
        for first, second in ((A, W), (B, W), (A, H), (LO, K), (LO, H), (W, K), (W, H), (L0, L1), (L1, L2), (L2, L3)):
            other = list(row)
            other[first], other[second] = row[second], row[first]
            self.assertEqual(answer_to(0, 0, 0, other), [-2], (first, second))

    def test_nothing_is_done_then(self):
        wrong = (put(3, 16, 0, how()), put(3, 0, 1024, how()), put(3, 0, -1, how()), put(3, 0, 1, how(w=0.0)),
                 put(3, 0, 1, how(k=0.0)), put(3, 0, 1, how_with(A, NO_DOUBLE)), put(67, 0, 1, how(b=5.0)),
                 put(-61, 0, 1, how(b=5.0)))
        for call in wrong:
            given = run(new(), put(3, 0, 0, how(a=2.0, b=1.0)), frame(8, [10, 50]), call, tell(8, 0), raw(8, 0),
                        frame(8, [11, 50]), tell(8, 0), tell(8, 3))
            self.assertEqual(given[3:], [[-2], [0, double(21.0)], [1, 10], [0], [0, double(23.0)], [0, double(21.0)]])

    def test_a_gauge_is_not_set_by_a_refused_call(self):
        self.assertEqual(run(new(), put(3, 0, 0, how(h=-1.0)), frame(8, [1]), point(3, 0)), [[0], [-2], [-3], [-3]])


class SetAgain(unittest.TestCase):
    def test_it_is_without_readings(self):
        given = run(new(), put(2, 0, 0, how()), frame(4, [9]), put(2, 0, 0, how()), tell(4, 0), tell(4, 1), tell(4, 2),
                    tell(4, 3), tell(4, 4), raw(4, 0), [5, 4])
        nothing = [0, NO_DOUBLE]
        self.assertEqual(given[4:], [nothing, [0, 0x7FC00000], nothing, nothing, nothing, [0, 0], [0, 0]])

    def test_smoothing_and_extremes_begin_again(self):
        given = run(new(), put(2, 0, 0, how(w=0.5)), frame(4, [9]), frame(4, [200]), put(2, 0, 0, how(w=0.5)),
                    frame(4, [40]), tell(4, 2), tell(4, 3), tell(4, 4))
        self.assertEqual(given[-3:], [[0, double(40.0)]] * 3)

    def test_it_is_what_was_set_last(self):
        given = run(new(), put(2, 0, 0, how()), put(2, 11, 5, how(a=0.5, b=3.0)), frame(4, [0] * 5 + [255, 254]),
                    tell(4, 0), raw(4, 3), point(2, double(2.0)))
        self.assertEqual(given[3:], [[0], [0, double(2.0)], [1, -2], [0, 255, 254, 0, 0, 0, 0, 0, 0]])

    def test_other_gauges_stay(self):
        given = run(new(), put(1, 0, 0, how()), put(2, 0, 0, how()), frame(6, [9]), put(2, 0, 0, how()), tell(6, 0))
        self.assertEqual(given[-1], [0, double(9.0), NO_DOUBLE])

    def test_all_gauges_are_apart(self):
        calls = [new()]
        row = []
        for g in range(64):
            kind = g % 16
            calls.append(put(g, kind, len(row), how(b=float(g))))
            row += bytes_of(g + 1, kind)
        given = run(*calls, frame(ALL, row), tell(ALL, 0), raw(ALL, 7))
        self.assertEqual(given[-3], [0])
        self.assertEqual(given[-2], [0] + [double(2.0 * g + 1) for g in range(64)])
        self.assertEqual(given[-1], [64] + [g + 1 for g in range(64)])


if __name__ == "__main__":
    unittest.main()
