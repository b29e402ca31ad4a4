"""gb_points: promise 8."""

import math
import unittest
from fractions import Fraction

from tests.helper import ALL, NO_DOUBLE
from tests.helper import bounds, bytes_of, double, events, frame, how, last, lost, new, point, points, put, raw, run
from tests.helper import states, tell, trace

BELOW_THE_LIMIT = math.nextafter(2.0 ** 125, 0.0)
NO_POINTS = (
    double(2.0 ** 125), double(-2.0 ** 125), double(2.0 ** 126), double(1e308), double(-1e308),
    double(math.inf), double(-math.inf), NO_DOUBLE, NO_DOUBLE + 2 ** 63, 0x7FF0000000000001, 0xFFF0000000000001,
    2 ** 63 - 1, 2 ** 64 - 1, double(2.0 ** 125) + 1)


def pointed(kind, row, y, place=0, given=(9,) * 12):
    """The answer for one gauge in a frame."""
    return last(new(), put(0, kind, place, row), points(1, {0: double(y)}, given))


class Pointed(unittest.TestCase):
    def test_ordinary(self):
        calls = (new(), put(2, 2, 1, how(a=0.5, b=-40.0)), put(7, 1, 4, how(a=-2.0, b=1.0)))
        given = last(*calls, points(4 + 128, {2: double(110.0), 7: double(11.0)}, [1, 2, 3, 4, 5, 6]))
        self.assertEqual(given, [0, 1, 44, 1, 4, 251, 6])

    def test_every_kind_at_its_place(self):
        for kind in range(16):
            low, high = bounds(kind)
            for number in (low, high if high < 2 ** 53 else 2 ** 53 - 1, 77):
                row = bytes_of(number, kind)
                given = pointed(kind, how(), float(number), 3)
                self.assertEqual(given, [0, 9, 9, 9, *row, *[9] * (9 - len(row))], (kind, number))

    def test_no_zeros_behind_the_bytes(self):
        self.assertEqual(pointed(0, how(), 5.0), [0, 5] + [9] * 11)
        self.assertEqual(pointed(10, how(), 258.0), [0, 1, 2] + [9] * 10)

    def test_held_to_each_kind(self):
        for kind in range(16):
            low, high = bounds(kind)
            for y, number in ((BELOW_THE_LIMIT, high), (-BELOW_THE_LIMIT, low)):
                row = bytes_of(number, kind)
                self.assertEqual(pointed(kind, how(), y), [1, *row, *[9] * (12 - len(row))], (kind, y))

    def test_how_many_were_held_to_another(self):
        calls = [new()] + [put(g, 0, g, how()) for g in range(64)]
        y = {g: double(256.0 if g % 3 == 0 else float(g)) for g in range(64)}
        row = [255 if g % 3 == 0 else g for g in range(64)]
        self.assertEqual(last(*calls, points(ALL, y, [0] * 64)), [22] + row)
        self.assertEqual(last(*calls, points(1 + 2 + 8, y, [0] * 64)), [2, 255, 1, 0, 255] + [0] * 60)
        self.assertEqual(last(*calls, points(ALL, {g: double(-1.0) for g in range(64)}, [7] * 64)), [64] + [0] * 64)

    def test_ties_and_what_is_not_another(self):
        for y, number, other in ((0.5, 0, 0), (1.5, 2, 0), (2.5, 2, 0), (254.5, 254, 0), (255.25, 255, 0),
                                 (255.5, 255, 1), (-0.5, 0, 0), (-0.0, 0, 0), (-0.75, 0, 1), (5e-324, 0, 0)):
            self.assertEqual(pointed(0, how(), y), [other, number] + [9] * 11, y)

    def test_made_doubles_on_the_way(self):
        # y - b is 2^53 + 1 exactly, and 2^53 as a double.
        self.assertEqual(pointed(6, how(b=-1.0), 2.0 ** 53), [0, *bytes_of(2 ** 53, 6), 9, 9, 9, 9])
        found = 0
        for i in range(1, 400):
            a = 1.0 + i * 2.0 ** -52
            y = float(Fraction(a) * Fraction(2 * i + 1, 2))
            exact = Fraction(y) / Fraction(a)
            found += round(exact) != round(float(exact))
            self.assertEqual(pointed(2, how(a=a), y, 0, (0, 0)), [0, *bytes_of(round(float(exact)), 2)], i)
        self.assertGreater(found, 3)

    def test_the_same_bytes_as_gb_point(self):
        for kind in range(16):
            size = 1 << (kind // 2 % 4)
            row = how(a=-0.7, b=12.5)
            for y in (0.0, 1.0, -13.0, 1e6, -1e6, 1e19, -1e19):
                alone = last(new(), put(0, kind, 0, row), point(0, double(y)))
                self.assertEqual(pointed(kind, row, y, 0, (9,) * size), alone[:1 + size], (kind, y))

    def test_each_has_its_own_number_of_y(self):
        calls = [new()] + [put(g, 0, 63 - g, how(b=-1.0)) for g in range(64)]
        y = {g: double(g + 2.0) for g in range(64)}
        self.assertEqual(last(*calls, points(ALL, y, [200] * 64)), [0] + [66 - i for i in range(64)])
        for g in (0, 1, 31, 32, 62, 63):
            row = [200] * 64
            row[63 - g] = g + 3
            self.assertEqual(last(*calls, points(1 << g, y, [200] * 64)), [0] + row, g)


class Frames(unittest.TestCase):
    def test_which_of_0(self):
        for row in ([], [3], [1, 2, 3], [255] * 1024):
            self.assertEqual(last(new(), points(0, {}, row)), [0] + row)
            self.assertEqual(last(new(), put(0, 0, 0, how()), points(0, {0: double(7.0)}, row)), [0] + row)

    def test_a_frame_of_1024(self):
        row = [i % 256 for i in range(1024)]
        for kind in range(16):
            wanted = bytes_of(65, kind)
            place = 1024 - len(wanted)
            given = last(new(), put(63, kind, place, how()), points(2 ** 63, {63: double(65.0)}, row))
            self.assertEqual(given, [0] + row[:place] + wanted, kind)

    def test_all_64_gauges_of_all_kinds_in_1024(self):
        calls, y, wanted = [new()], {}, []
        for g in range(64):
            calls.append(put(g, g % 16, 16 * g, how(a=0.5)))
            y[g] = double((g + 20) / 2)
            row = bytes_of(g + 20, g % 16)
            wanted += row + [170] * (16 - len(row))
        self.assertEqual(last(*calls, points(ALL, y, [170] * 1024)), [0] + wanted)

    def test_a_frame_of_just_so_many(self):
        for kind in range(16):
            row = bytes_of(65, kind)
            size = len(row)
            for place in (0, 1, 5):
                calls = (new(), put(0, kind, place, how()))
                given = run(*calls, points(1, {0: double(65.0)}, [3] * (place + size)),
                            points(1, {0: double(65.0)}, [3] * (place + size - 1)))
                self.assertEqual(given[2:], [[0] + [3] * place + row, [-3]], (kind, place))

    def test_overlapping_places(self):
        # Gauge 3 has the bytes 0 to 3, gauge 5 those at 1 and 2, gauge 9 those at 2 and 3.
        calls = (new(), put(9, 2, 2, how()), put(5, 10, 1, how()), put(3, 4, 0, how()))
        y = {3: double(0x04030201), 5: double(0x1112), 9: double(0x2221)}
        for which, row in ((8, [1, 2, 3, 4, 7]), (32, [7, 17, 18, 7, 7]), (8 + 32, [1, 17, 18, 4, 7]),
                           (8 + 512, [1, 2, 33, 34, 7]), (32 + 512, [7, 17, 33, 34, 7]),
                           (8 + 32 + 512, [1, 17, 33, 34, 7])):
            self.assertEqual(last(*calls, points(which, y, [7] * 5)), [0] + row, which)

    def test_the_later_of_two_at_one_place(self):
        for first, second in ((0, 1), (5, 63), (62, 63)):
            calls = (new(), put(second, 0, 1, how()), put(first, 0, 1, how()))
            y = {first: double(400.0), second: double(6.0)}
            # The one that is not seen any more was held to another all the same.
            self.assertEqual(last(*calls, points((1 << first) + (1 << second), y, [3, 3, 3])), [1, 3, 6, 3])


class ChangesNothing(unittest.TestCase):
    def test_it_is_no_reading(self):
        given = run(new(), put(0, 0, 0, how()), points(1, {0: double(9.0)}, [4]), tell(1, 0), raw(1, 0), states(),
                    events(), lost(), trace(0, 1))
        self.assertEqual(given[2:], [[0, 9], [0, NO_DOUBLE], [0, 0], [0, 0, 0, 1, 0, 0, 0], [0], [0], [-3]])

    def test_readings_stay(self):
        given = run(new(), put(0, 0, 0, how()), frame(1, [1]), points(1, {0: double(99.0)}, [4]), tell(1, 0),
                    tell(1, 4), states(), trace(0, 2))
        self.assertEqual(given[3:], [[0, 99], [0, double(1.0)], [0, double(1.0)], [0, 0, 0, 1, 0, 0, 1], [-3]])

    def test_one_time_leaves_nothing_for_the_next(self):
        call = points(1, {0: double(9.0)}, [4, 4])
        given = run(new(), put(0, 0, 0, how()), call, points(0, {}, [4, 4]), call, points(0, {}, []))
        self.assertEqual(given[2:], [[0, 9, 4], [0, 4, 4], [0, 9, 4], [0]])


class Refused(unittest.TestCase):
    def test_y_is_not_as_told(self):
        calls = (new(), put(0, 0, 0, how()), put(63, 0, 1, how()))
        for bits in NO_POINTS:
            self.assertEqual(last(*calls, points(1, {0: bits}, [1, 2])), [-2], bits)
            self.assertEqual(last(*calls, points(1 + 2 ** 63, {63: bits}, [1, 2])), [-2], bits)
            self.assertEqual(last(*calls, points(1 + 2 ** 63, {0: bits}, [1, 2])), [-2], bits)

    def test_y_just_below_the_limit(self):
        calls = (new(), put(0, 0, 0, how()))
        self.assertEqual(last(*calls, points(1, {0: double(BELOW_THE_LIMIT)}, [1, 2])), [1, 255, 2])
        self.assertEqual(last(*calls, points(1, {0: double(-BELOW_THE_LIMIT)}, [1, 2])), [1, 0, 2])

    def test_y_of_a_gauge_that_is_not_in_which(self):
        calls = (new(), put(0, 0, 0, how()), put(63, 0, 1, how()))
        for bits in NO_POINTS:
            y = {g: bits for g in range(1, 64)}
            self.assertEqual(last(*calls, points(1, {0: double(8.0), **y}, [1, 2])), [0, 8, 2], bits)
            self.assertEqual(last(*calls, points(0, {0: bits, **y}, [1, 2])), [0, 1, 2], bits)

    def test_one_is_not_set(self):
        calls = (new(), put(0, 0, 0, how()))
        for which in (2, 3, 1 + 2 ** 63, 2 ** 63, ALL):
            self.assertEqual(last(*calls, points(which, {}, [1, 2])), [-3], which)

    def test_a_of_0(self):
        calls = (new(), put(0, 0, 0, how()), put(1, 0, 1, how(a=0.0, b=5.0)))
        for which in (2, 3):
            self.assertEqual(last(*calls, points(which, {1: double(5.0)}, [1, 2])), [-3])
        self.assertEqual(last(*calls, points(1, {0: double(5.0)}, [1, 2])), [0, 5, 2])

    def test_bytes_beyond_the_frame(self):
        calls = (new(), put(0, 0, 0, how()), put(1, 4, 10, how()))
        for length in (0, 1, 10, 11, 13):
            self.assertEqual(last(*calls, points(2, {}, [0] * length)), [-3], length)
            self.assertEqual(last(*calls, points(3, {}, [0] * length)), [-3], length)
        self.assertEqual(last(*calls, points(3, {}, [0] * 14)), [0] + [0] * 14)

    def test_a_gauge_beyond_that_is_not_in_which(self):
        calls = (new(), put(0, 0, 0, how()), put(1, 6, 1000, how()), put(2, 0, 0, how(a=0.0)))
        self.assertEqual(last(*calls, points(1, {0: double(3.0)}, [0])), [0, 3])

    def test_wrong_comes_before_impossible(self):
        calls = (new(), put(5, 0, 0, how()), put(6, 0, 0, how(a=0.0)), put(7, 0, 9, how()))
        for bits in NO_POINTS:
            for which, g in ((1, 0), (1 + 32, 5), (32 + 64, 5), (64, 6), (32 + 128, 5), (128, 7), (ALL, 63)):
                self.assertEqual(last(*calls, points(which, {g: bits}, [1])), [-2], (bits, which))

    def test_nothing_is_done_then(self):
        calls = (new(), put(0, 0, 0, how()), put(1, 0, 0, how(a=0.0)), frame(1, [5]))
        given = run(*calls, points(1, {0: NO_DOUBLE}, [8]), points(3, {0: double(9.0)}, [8]),
                    points(1, {0: double(9.0)}, []), points(5, {0: double(9.0)}, [8]), tell(1, 0), states(), events(),
                    trace(0, 1), points(1, {0: double(9.0)}, [8, 8]))
        self.assertEqual(given[4:8], [[-2], [-3], [-3], [-3]])
        self.assertEqual(given[8], [0, double(5.0)])
        self.assertEqual(given[9], [0, 0, 0, 2, 0, 1, 1])
        self.assertEqual(given[10][0], 1)
        self.assertEqual(given[12], [0, 9, 8])


if __name__ == "__main__":
    unittest.main()
