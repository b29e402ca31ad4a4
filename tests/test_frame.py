"""gb_frame: promise 3, and the number of each kind in a frame."""

import unittest

from tests.helper import ALL, NO_DOUBLE, bounds, bytes_of, dial, double, frame, how, last, new, put, raw, run, tell


def read_as(kind, row):
    """The number that a gauge of this kind reads at the start of a frame: by the widest form with its sign."""
    return last(new(), put(0, kind, 0, how()), frame(1, row), raw(1, 7 if kind % 2 else 6))


class Kinds(unittest.TestCase):
    def test_written_out(self):
        row = [0x81, 0x92, 0xA3, 0xB4, 0xC5, 0xD6, 0xE7, 0xF8]
        by_kind = (
            0x81, 0x81 - 2 ** 8, 0x9281, 0x9281 - 2 ** 16, 0xB4A39281, 0xB4A39281 - 2 ** 32,
            0xF8E7D6C5B4A39281, 0xF8E7D6C5B4A39281 - 2 ** 64,
            0x81, 0x81 - 2 ** 8, 0x8192, 0x8192 - 2 ** 16, 0x8192A3B4, 0x8192A3B4 - 2 ** 32,
            0x8192A3B4C5D6E7F8, 0x8192A3B4C5D6E7F8 - 2 ** 64)
        for kind, number in enumerate(by_kind):
            self.assertEqual(read_as(kind, row), [1, number], kind)

    def test_the_ends_of_each_kind(self):
        for kind in range(16):
            low, high = bounds(kind)
            for number in (low, low + 1, (low + high) // 2, (low + high) // 2 + 1, high - 1, high, 0, 1):
                self.assertEqual(read_as(kind, bytes_of(number, kind)), [1, number], (kind, number))

    def test_values_below_0(self):
        for kind in range(1, 16, 2):
            row = bytes_of(-3, kind)
            self.assertEqual(last(new(), put(0, kind, 0, how(a=0.5)), frame(1, row), tell(1, 0)), [0, double(-1.5)])


class Places(unittest.TestCase):
    def test_each_kind_at_the_end_of_the_frame(self):
        for kind in range(16):
            size = len(bytes_of(0, kind))
            number = bounds(kind)[1] - 1
            for place in (0, 1, 5, 1024 - size):
                row = [170] * place + bytes_of(number, kind)
                given = run(new(), put(0, kind, place, how()), frame(1, row), raw(1, 6), frame(1, row[:-1]))
                self.assertEqual(given[2:], [[0], [1, number], [-3]], (kind, place))

    def test_bytes_behind_and_before_do_not_count(self):
        for kind in range(16):
            row = [255] * 7 + bytes_of(77, kind) + [255] * 9
            self.assertEqual(last(new(), put(0, kind, 7, how()), frame(1, row), raw(1, 7)), [1, 77])

    def test_overlapping_places(self):
        row = [1, 2, 3, 4]
        given = run(new(), put(0, 2, 0, how()), put(1, 2, 1, how()), put(2, 12, 0, how()), frame(7, row), raw(7, 6))
        self.assertEqual(given[-1], [3, 0x0201, 0x0302, 0x01020304])


class Which(unittest.TestCase):
    def test_none(self):
        given = run(new(), frame(0, []), frame(0, [1, 2]), put(0, 0, 0, how()), frame(0, []), frame(0, [5]), raw(1, 0))
        self.assertEqual(given, [[0], [0], [0], [0], [0], [0], [0, 0]])

    def test_all(self):
        calls = [new()] + [put(g, 0, g, how()) for g in range(64)]
        row = [255 - 3 * g for g in range(64)]
        given = run(*calls, frame(ALL, row), raw(ALL, 0), frame(ALL, row[:-1]))
        self.assertEqual(given[65:], [[0], [64] + row, [-3]])

    def test_only_those_in_which(self):
        calls = [new()] + [put(g, 0, g, how()) for g in range(64)]
        for g in (0, 1, 31, 32, 33, 62, 63):
            given = run(*calls, frame(1 << g, list(range(100, 164))), raw(ALL, 0))
            self.assertEqual(given[-2:], [[0], [1] + [100 + i if i == g else 0 for i in range(64)]])

    def test_others_keep_their_readings(self):
        given = run(new(), put(0, 0, 0, how()), put(63, 0, 1, how()), frame(1 + 2 ** 63, [1, 2]), frame(1, [3, 4]),
                    raw(1 + 2 ** 63, 0), frame(2 ** 63, [5, 6]), raw(1 + 2 ** 63, 0))
        self.assertEqual(given[-3:], [[2, 3, 2], [0], [2, 3, 6]])

    def test_a_frame_may_lack_what_is_not_in_which(self):
        given = run(new(), put(0, 0, 0, how()), put(1, 6, 1000, how()), frame(1, [3]), raw(3, 0))
        self.assertEqual(given[-2:], [[0], [1, 3, 0]])

    def test_any_time(self):
        for time in (0, 1, 2 ** 63, 2 ** 64 - 1):
            self.assertEqual(run(new(), put(0, 0, 0, how()), frame(1, [3], time), raw(1, 0))[-2:], [[0], [1, 3]])

    def test_time_may_go_back(self):
        given = run(new(), put(0, 0, 0, how()), frame(1, [3], 9), frame(1, [4], 2), raw(1, 0))
        self.assertEqual(given[-2:], [[0], [1, 4]])


class Refused(unittest.TestCase):
    def test_one_is_not_set(self):
        given = run(new(), put(0, 0, 0, how()), frame(2, [1]), frame(3, [1]), frame(1 + 2 ** 63, [1]), frame(ALL, [1]))
        self.assertEqual(given[2:], [[-3]] * 4)

    def test_bytes_beyond_the_frame(self):
        given = run(new(), put(0, 4, 10, how()), frame(1, []), frame(1, [0] * 10), frame(1, [0] * 13),
                    frame(1, [0] * 14))
        self.assertEqual(given[2:], [[-3], [-3], [-3], [0]])

    def test_nothing_is_done_where_a_later_gauge_is_not_set(self):
        given = run(new(), put(0, 0, 0, how()), frame(3, [9]), raw(3, 0), tell(3, 0), frame(1, [4]), frame(3, [9]),
                    raw(1, 0), tell(1, 4))
        self.assertEqual(given[2:], [[-3], [0, 0, 0], [0, NO_DOUBLE, NO_DOUBLE], [0], [-3], [1, 4], [0, double(4.0)]])

    def test_nothing_is_done_where_a_gauge_lies_beyond(self):
        for short, whole in ((0, 1), (1, 0), (5, 63), (63, 5)):
            which = (1 << short) + (1 << whole)
            calls = (new(), put(short, 2, 1, how()), put(whole, 0, 0, how(w=0.5)))
            given = run(*calls, frame(which, [4, 0, 1]), frame(which, [200, 7]), raw(1 << whole, 0),
                        tell(1 << whole, 2), tell(1 << whole, 4), dial(1 << whole))
            self.assertEqual(given[3:], [[0], [-3], [1, 4], [0, double(4.0)], [0, double(4.0)], [1, 4]])


if __name__ == "__main__":
    unittest.main()
