"""gb_dial: promise 6."""

import math
import unittest
from fractions import Fraction

from tests.helper import ALL, bytes_of, dial, double, frame, how, last, new, put, run, tell


def turned(row, number=1, kind=0):
    return last(new(), put(0, kind, 0, row), frame(1, bytes_of(number, kind)), dial(1))


class Dial(unittest.TestCase):
    def test_ordinary(self):
        self.assertEqual(turned(how(lo=10.0, k=3.0), 25), [1, 45])
        self.assertEqual(turned(how(a=0.5, b=100.0, lo=-20.0, k=0.25), 40), [1, 35])

    def test_ties_go_to_the_even_one(self):
        for number, whole in ((1, 0), (3, 2), (5, 2), (7, 4), (9, 4), (2, 1), (4, 2)):
            self.assertEqual(turned(how(k=0.5), number), [1, whole], number)

    def test_beside_ties(self):
        for k, whole in ((math.nextafter(0.5, 1.0), 1), (math.nextafter(0.5, 0.0), 0), (math.nextafter(1.5, 0.0), 1),
                         (math.nextafter(2.5, 3.0), 3), (0.75, 1), (1.25, 1)):
            self.assertEqual(turned(how(k=k)), [1, whole], k)

    def test_held_to_32_bits_without_a_sign(self):
        for number, whole in ((2 ** 32 - 2, 2 ** 32 - 2), (2 ** 32 - 1, 2 ** 32 - 1), (2 ** 32, 2 ** 32 - 1),
                              (2 ** 33, 2 ** 32 - 1), (2 ** 31, 2 ** 31), (0, 0), (2 ** 63 - 1, 2 ** 32 - 1)):
            self.assertEqual(turned(how(), number, 6), [1, whole], number)
        for number in (-1, -2, -2 ** 31, -2 ** 63):
            self.assertEqual(turned(how(), number, 7), [1, 0], number)
        largest = math.nextafter(2.0 ** 60, 0.0)
        self.assertEqual(turned(how(a=largest, b=largest, lo=-largest, k=largest), 2 ** 64 - 1, 6), [1, 2 ** 32 - 1])
        self.assertEqual(turned(how(a=-largest, b=-largest, lo=largest, k=largest), 2 ** 64 - 1, 6), [1, 0])

    def test_it_is_held_after_it_is_made_whole(self):
        self.assertEqual(turned(how(b=0.5), 2 ** 32 - 1, 4), [1, 2 ** 32 - 1])
        self.assertEqual(turned(how(b=0.5), 2 ** 32 - 2, 4), [1, 2 ** 32 - 2])
        self.assertEqual(turned(how(b=-0.5), 0), [1, 0])
        self.assertEqual(turned(how(b=-0.75), 0), [1, 0])

    def test_the_difference_is_made_a_double(self):
        # y - lo is 2^53 + 1 exactly, 2^53 as a double; exactly it would come to 2^20 + 1/2 + a little.
        k = 2.0 ** -33 * (1 + 2.0 ** -21)
        exact = Fraction(2 ** 53 + 1) * Fraction(k)
        self.assertGreater(exact, Fraction(2 ** 20) + Fraction(1, 2))
        self.assertEqual(turned(how(lo=-1.0, k=k), 2 ** 53, 6), [1, 2 ** 20])

    def test_the_product_is_made_a_double(self):
        # Exactly t k lies a little beside a tie, as a double it is the tie: where these differ, the double counts.
        differ = 0
        for t in range(3, 256, 2):
            k = (t + 2.5) / t
            exact = Fraction(t) * Fraction(k)
            differ += round(exact) != round(float(exact))
            self.assertEqual(turned(how(k=k), t), [1, round(float(exact))], t)
        self.assertGreater(differ, 10)

    def test_of_the_value_not_smoothed(self):
        given = last(new(), put(0, 0, 0, how(w=0.5)), frame(1, [100]), frame(1, [10]), dial(1))
        self.assertEqual(given, [1, 10])

    def test_small_differences(self):
        smallest = math.nextafter(2.0 ** -60, 1.0)
        self.assertEqual(turned(how(a=smallest, lo=2.0 ** -60, k=2.0 ** -60)), [1, 0])
        self.assertEqual(turned(how(a=smallest, lo=2.0 ** -60, k=2.0 ** 59)), [1, 0])

    def test_no_reading_yet(self):
        given = run(new(), dial(0), dial(1), dial(ALL), put(0, 0, 0, how(b=9.0)), dial(1), frame(0, [1]), dial(1))
        self.assertEqual(given[1:], [[0], [0, 0], [0] + [0] * 64, [0], [0, 0], [0], [0, 0]])

    def test_how_many_had_a_reading(self):
        calls = [new()] + [put(g, 0, g, how(k=2.0)) for g in range(64)] + [frame(1 + 4 + 2 ** 63, list(range(64)))]
        given = run(*calls, dial(ALL), dial(1 + 2 + 4), dial(2), dial(2 ** 63), dial(0))
        self.assertEqual(given[66], [3, 0, 0, 4] + [0] * 60 + [126])
        self.assertEqual(given[67:], [[2, 0, 0, 4], [0, 0], [1, 126], [0]])

    def test_all(self):
        calls = [new()] + [put(g, 0, g, how(lo=float(g), k=3.0)) for g in range(64)]
        given = last(*calls, frame(ALL, [2 * g for g in range(64)]), dial(ALL))
        self.assertEqual(given, [64] + [3 * g for g in range(64)])

    def test_it_changes_nothing(self):
        given = run(new(), put(0, 0, 0, how(lo=1.0)), frame(1, [100]), dial(1), dial(1), tell(1, 0))
        self.assertEqual(given[3:], [[1, 99], [1, 99], [0, double(100.0)]])


if __name__ == "__main__":
    unittest.main()
