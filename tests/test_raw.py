"""gb_raw: promise 5."""

import unittest

from tests.helper import ALL, INT_MAX, INT_MIN, bounds, bytes_of, frame, how, last, new, put, raw, run


def raw_of(kind, number, form):
    return last(new(), put(0, kind, 0, how()), frame(1, bytes_of(number, kind)), raw(1, form))


class Raw(unittest.TestCase):
    def test_every_kind_held_to_every_form(self):
        for kind in range(16):
            low, high = bounds(kind)
            for form in range(8):
                least, most = bounds(form)
                numbers = (low, low + 1, 0, 1, high - 1, high, least - 1, least, least + 1, most - 1, most, most + 1)
                for number in [n for n in numbers if low <= n <= high]:
                    nearest = min(max(number, least), most)
                    self.assertEqual(raw_of(kind, number, form), [1, nearest], (kind, form, number))

    def test_written_out(self):
        self.assertEqual(raw_of(7, -2 ** 63, 0), [1, 0])
        self.assertEqual(raw_of(7, -2 ** 63, 1), [1, -128])
        self.assertEqual(raw_of(7, -2 ** 63, 3), [1, -32768])
        self.assertEqual(raw_of(7, -2 ** 63, 5), [1, -2147483648])
        self.assertEqual(raw_of(7, -2 ** 63, 6), [1, 0])
        self.assertEqual(raw_of(7, -2 ** 63, 7), [1, -2 ** 63])
        self.assertEqual(raw_of(6, 2 ** 64 - 1, 0), [1, 255])
        self.assertEqual(raw_of(6, 2 ** 64 - 1, 1), [1, 127])
        self.assertEqual(raw_of(6, 2 ** 64 - 1, 2), [1, 65535])
        self.assertEqual(raw_of(6, 2 ** 64 - 1, 3), [1, 32767])
        self.assertEqual(raw_of(6, 2 ** 64 - 1, 4), [1, 4294967295])
        self.assertEqual(raw_of(6, 2 ** 64 - 1, 5), [1, 2147483647])
        self.assertEqual(raw_of(6, 2 ** 64 - 1, 6), [1, 2 ** 64 - 1])
        self.assertEqual(raw_of(6, 2 ** 64 - 1, 7), [1, 2 ** 63 - 1])

    def test_the_reading_itself_not_its_value_nor_its_double(self):
        calls = (new(), put(0, 6, 0, how(a=-3.0, b=7.0)))
        self.assertEqual(last(*calls, frame(1, bytes_of(2 ** 53 + 1, 6)), raw(1, 6)), [1, 2 ** 53 + 1])

    def test_the_last_reading(self):
        given = run(new(), put(0, 0, 0, how()), frame(1, [9]), frame(1, [4]), raw(1, 0), frame(1, [6]), raw(1, 0))
        self.assertEqual(given[4:], [[1, 4], [0], [1, 6]])

    def test_no_reading_yet(self):
        for form in range(8):
            given = run(new(), raw(0, form), raw(1, form), raw(ALL, form), put(0, 0, 0, how()), raw(1, form))
            self.assertEqual(given[1:], [[0], [0, 0], [0] + [0] * 64, [0], [0, 0]])

    def test_how_many_had_a_reading(self):
        calls = [new()] + [put(g, 0, g, how()) for g in range(0, 64, 3)] + [frame(1 + 8 + 2 ** 63, [5] * 63 + [0])]
        given = run(*calls, raw(ALL, 0), raw(1 + 2, 0), raw(8 + 2 ** 6, 0), raw(2 ** 63, 0), raw(0, 0), raw(2, 0))
        self.assertEqual(given[len(calls)], [3, 5, 0, 0, 5] + [0] * 60)
        # A reading of 0 is one too.
        self.assertEqual(given[len(calls) + 1:], [[1, 5, 0], [1, 5, 0], [1, 0], [0], [0, 0]])

    def test_no_form(self):
        for form in (-1, 8, 9, 15, 16, INT_MIN, INT_MAX):
            for which in (0, 1, 2, ALL):
                given = run(new(), put(0, 0, 0, how()), frame(1, [3]), raw(which, form), raw(1, 0))
                self.assertEqual(given[3:], [[-2], [1, 3]])


if __name__ == "__main__":
    unittest.main()
