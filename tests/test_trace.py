"""gb_trace: promise 12; and which values a trace keeps."""

import math
import unittest
from fractions import Fraction

from tests.helper import ALL, INT_MAX, INT_MIN
from tests.helper import bytes_of, clear, double, frame, how, last, new, put, run, single, states, tell, trace


def readings(g, numbers, kind=0):
    return [frame(1 << g, bytes_of(number, kind)) for number in numbers]


def singles(numbers):
    return [single(number) for number in numbers]


class Told(unittest.TestCase):
    def test_the_oldest_first(self):
        calls = (new(), put(5, 0, 0, how()), *readings(5, [3, 1, 4, 1, 5]))
        self.assertEqual(last(*calls, trace(5, 5)), [0, *singles([3.0, 1.0, 4.0, 1.0, 5.0])])

    def test_the_last_n(self):
        calls = (new(), put(5, 0, 0, how()), *readings(5, [3, 1, 4, 1, 5]))
        for n in range(6):
            self.assertEqual(last(*calls, trace(5, n)), [0, *singles([3.0, 1.0, 4.0, 1.0, 5.0][5 - n:])], n)

    def test_bits_written_out(self):
        calls = (new(), put(0, 1, 0, how()), *readings(0, [1, -1, 0, 100], 1))
        self.assertEqual(last(*calls, trace(0, 4)), [0, 0x3F800000, 0xBF800000, 0, 0x42C80000])

    def test_each_value_is_made_a_single(self):
        calls = (new(), put(0, 0, 0, how(a=0.1, b=-3.0)), *readings(0, range(200)))
        values = [float(Fraction(0.1) * x - 3) for x in range(200)]
        self.assertEqual(last(*calls, trace(0, 200)), [0, *singles(values)])

    def test_ties_of_singles(self):
        step = 2.0 ** -23
        for y, made in ((1.0 + step / 2, 1.0), (1.0 + step * 1.5, 1.0 + 2 * step), (1.0 + step * 0.75, 1.0 + step),
                        (-1.0 - step / 2, -1.0), (-1.0 - step * 1.5, -1.0 - 2 * step), (2.0 - step / 2, 2.0),
                        (math.nextafter(1.0 + step / 2, 2.0), 1.0 + step)):
            self.assertEqual(last(new(), put(0, 0, 0, how(a=y)), frame(1, [1]), trace(0, 1)), [0, single(made)], y)

    def test_it_is_made_of_the_double(self):
        # Exactly the value is a little above the tie; the double is the tie.
        row = how(a=1.0 + 2.0 ** -24, b=2.0 ** -60)
        self.assertEqual(last(new(), put(0, 0, 0, row), frame(1, [1]), trace(0, 1)), [0, single(1.0)])

    def test_the_largest_and_the_smallest(self):
        largest = math.nextafter(2.0 ** 60, 0.0)
        calls = (new(), put(0, 6, 0, how(a=-largest, b=-largest)), *readings(0, [2 ** 64 - 1], 6))
        self.assertEqual(last(*calls, trace(0, 1)), [0, single(-2.0 ** 124)])
        smallest = math.nextafter(2.0 ** -60, 1.0)
        calls = (new(), put(0, 0, 0, how(a=smallest, b=-2.0 ** -60)), frame(1, [1]))
        self.assertEqual(last(*calls, trace(0, 1)), [0, single(2.0 ** -112)])

    def test_a_0_has_no_sign(self):
        calls = (new(), put(0, 0, 0, how(a=-1.0)), *readings(0, [0, 1, 0]))
        self.assertEqual(last(*calls, trace(0, 3)), [0, 0, single(-1.0), 0])

    def test_values_not_smoothed(self):
        calls = (new(), put(0, 0, 0, how(w=0.5)), *readings(0, [100, 0, 200]))
        self.assertEqual(last(*calls, trace(0, 3)), [0, *singles([100.0, 0.0, 200.0])])

    def test_each_gauge_has_its_own(self):
        calls = [new()] + [put(g, 0, g, how(b=float(g))) for g in range(64)]
        calls += [frame(ALL, [i] * 64) for i in (7, 8)] + [frame(1, [9])]
        given = run(*calls, *[trace(g, 2) for g in range(64)])[-64:]
        self.assertEqual(given[0], [0, *singles([8.0, 9.0])])
        for g in range(1, 64):
            self.assertEqual(given[g], [0, *singles([g + 7.0, g + 8.0])])

    def test_asking_changes_nothing(self):
        calls = (new(), put(0, 0, 0, how()), *readings(0, [1, 0, 1]))
        given = run(*calls, trace(0, 2), trace(0, 3), trace(0, 2), tell(1, 0), states())
        self.assertEqual(given[5:], [[0, *singles([0.0, 1.0])], [0, *singles([1.0, 0.0, 1.0])],
                                     [0, *singles([0.0, 1.0])], [0, double(1.0)], [0, 0, 0, 1, 0, 0, 1]])


class Kept(unittest.TestCase):
    def test_the_last_256(self):
        for count in (255, 256, 257, 258, 290):
            numbers = [(i * 7) % 251 for i in range(count)]
            given = run(new(), put(5, 0, 0, how()), *readings(5, numbers), trace(5, 256), trace(5, 255), trace(5, 1))
            values = singles([float(number) for number in numbers])
            self.assertEqual(given[-3], [0, *values[-256:]] if count >= 256 else [-3], count)
            self.assertEqual(given[-2], [0, *values[-255:]], count)
            self.assertEqual(given[-1], [0, values[-1]], count)

    def test_a_refused_frame_adds_none(self):
        given = run(new(), put(0, 0, 0, how()), frame(1, [7]), frame(3, [8]), frame(1, []), trace(0, 1), trace(0, 2))
        self.assertEqual(given[3:], [[-3], [-3], [0, single(7.0)], [-3]])

    def test_set_again_it_is_empty(self):
        given = run(new(), put(0, 0, 0, how()), frame(1, [7]), put(0, 0, 0, how()), trace(0, 0), trace(0, 1),
                    frame(1, [8]), trace(0, 1), trace(0, 2))
        self.assertEqual(given[4:], [[0], [-3], [0], [0, single(8.0)], [-3]])

    def test_a_refused_set_and_a_refused_clear_leave_it(self):
        calls = (new(), put(0, 0, 0, how()), frame(1, [7]))
        given = run(*calls, put(0, 0, 0, how(w=0.0)), clear(3), trace(0, 1))
        self.assertEqual(given[3:], [[-2], [-3], [0, single(7.0)]])

    def test_begun_anew(self):
        given = run(new(), put(0, 0, 0, how()), frame(1, [7]), new(), put(0, 0, 0, how()), trace(0, 1))
        self.assertEqual(given[-1], [-3])


class Refused(unittest.TestCase):
    def test_no_gauge(self):
        calls = [new()] + [put(g, 0, 0, how()) for g in range(64)] + [frame(ALL, [1])]
        for g in (-1, 64, 65, -64, 127, INT_MIN, INT_MAX):
            for n in (0, 1):
                self.assertEqual(last(*calls, trace(g, n)), [-2], (g, n))

    def test_n_not_0_to_256(self):
        calls = (new(), put(5, 0, 0, how()), *readings(5, [i % 256 for i in range(260)]))
        for n in (-1, 257, 258, 260, -256, INT_MIN, INT_MAX):
            self.assertEqual(last(*calls, trace(5, n)), [-2], n)

    def test_not_so_many(self):
        calls = (new(), put(5, 0, 0, how()))
        for count in range(4):
            given = run(*calls, *readings(5, [9] * count), *[trace(5, n) for n in (count, count + 1, count + 2, 256)])
            self.assertEqual(given[-4:], [[0] + [single(9.0)] * count, [-3], [-3], [-3]])

    def test_0_of_none(self):
        # A gauge that isn't set has no value in its trace either: for none of them there are so many.
        self.assertEqual(run(new(), trace(5, 0), put(5, 0, 0, how()), trace(5, 0))[1:], [[0], [0], [0]])

    def test_not_set(self):
        for g in (0, 62, 63):
            for n in (1, 2, 256):
                self.assertEqual(last(new(), put(5, 0, 0, how()), frame(32, [1]), trace(g, n)), [-3])

    def test_wrong_comes_before_impossible(self):
        for g, n in ((0, -1), (0, 257), (64, 1), (-1, 256), (64, 257), (5, 257), (5, -1)):
            self.assertEqual(last(new(), put(5, 0, 0, how()), trace(g, n)), [-2], (g, n))

    def test_nothing_is_done_then(self):
        calls = (new(), put(5, 0, 0, how()), frame(32, [1]))
        given = run(*calls, trace(5, 2), trace(5, 257), trace(64, 1), trace(5, 1), tell(32, 0), states())
        self.assertEqual(given[3:], [[-3], [-2], [-2], [0, single(1.0)], [0, double(1.0)], [0, 0, 0, 32, 0, 0, 32]])


if __name__ == "__main__":
    unittest.main()
