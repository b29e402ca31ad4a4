"""gb_events and gb_lost: promises 10 and 11; and which events readings leave."""

import unittest

from tests.helper import ALL, INT_MAX, INT_MIN
from tests.helper import clear, double, event, events, frame, how, last, lost, new, put, run, states, tell

LIMITS = (-20.0, -10.0, 10.0, 20.0)


def gauge(g, place=0, kind=0, **parts):
    return put(g, kind, place, how(limits=LIMITS, **parts))


def switches(count, begin=0):
    """Frames of gauge 5, each of which leaves an event: to above and back to fine by turns."""
    return [frame(32, [15 if i % 2 == 0 else 0], begin + i) for i in range(count)]


def switched(first, count):
    """The numbers of such events, from the first on."""
    numbers = []
    for i in range(first, first + count):
        numbers += event(i, 15.0, 5, 2, 3) if i % 2 == 0 else event(i, 0.0, 5, 3, 2)
    return numbers


class Told(unittest.TestCase):
    def test_none_wait(self):
        for most in (0, 1, 255, 256):
            given = run(new(), events(most), gauge(5), events(most), frame(32, [5]), events(most), lost())
            self.assertEqual(given, [[0], [0], [0], [0], [0], [0], [0]])

    def test_written_out(self):
        given = run(new(), gauge(5, kind=1), frame(32, [15], 1000), frame(32, [226], 2 ** 64 - 1), events())
        self.assertEqual(given[4], [
            2, 1000, 0x402E000000000000, 0x030205, 2 ** 64 - 1, 0xC03E000000000000, 0x000305])

    def test_only_changes(self):
        numbers = (0, 15, 16, 0, 0, 246, 226, 227, 0)
        frames = [frame(32, [number], 100 + i) for i, number in enumerate(numbers)]
        given = run(new(), gauge(5, kind=1), *frames, events(), lost())
        self.assertEqual(given[-2], [4, *event(101, 15.0, 5, 2, 3), *event(103, 0.0, 5, 3, 2),
                                     *event(106, -30.0, 5, 2, 0), *event(108, 0.0, 5, 0, 2)])
        self.assertEqual(given[-1], [0])

    def test_a_0_has_no_sign(self):
        given = last(new(), put(5, 0, 0, how(a=-1.0, limits=(1.0, 2.0, 3.0, 4.0))), frame(32, [0], 3), events())
        self.assertEqual(given, [1, 3, 0, 5 + 256 * 2])

    def test_the_value_is_a_double_not_smoothed(self):
        given = last(new(), gauge(5, a=0.1, w=0.5), frame(32, [0], 1), frame(32, [111], 2), events())
        self.assertEqual(given, [1, 2, double(0.1 * 111), 5 + 256 * 2 + 65536 * 3])

    def test_each_gauge_by_its_number(self):
        for g in (0, 1, 31, 32, 62, 63):
            given = last(new(), gauge(g), frame(1 << g, [15], 9), events())
            self.assertEqual(given, [1, *event(9, 15.0, g, 2, 3)])

    def test_in_the_order_of_the_gauges(self):
        calls = (new(), gauge(9), gauge(2), gauge(63))
        given = last(*calls, frame(2 ** 63 + 2 ** 9 + 2 ** 2, [30], 7), events())
        self.assertEqual(given, [3, *event(7, 30.0, 2, 2, 4), *event(7, 30.0, 9, 2, 4), *event(7, 30.0, 63, 2, 4)])

    def test_in_the_order_they_came_not_of_their_times(self):
        times = (50, 2 ** 64 - 1, 0, 50)
        frames = [frame(32, [15 if i % 2 == 0 else 0], time) for i, time in enumerate(times)]
        given = last(new(), gauge(5), *frames, events())
        self.assertEqual(given[1::3], list(times))

    def test_a_gauge_not_in_which_leaves_none(self):
        given = last(new(), gauge(5), gauge(6), frame(64, [30]), events())
        self.assertEqual(given, [1, *event(0, 30.0, 6, 2, 4)])

    def test_a_refused_frame_leaves_none(self):
        given = run(new(), gauge(5), frame(32, [0]), frame(32 + 64, [30]), frame(32, []), events(), states(), lost())
        self.assertEqual(given[3:], [[-3], [-3], [0], [0, 0, 0, 32, 0, 0, 32], [0]])

    def test_setting_again_leaves_none_and_takes_none(self):
        given = run(new(), gauge(5), frame(32, [15], 4), gauge(5), frame(32, [0], 5), frame(32, [30], 6), events())
        self.assertEqual(given[-1], [2, *event(4, 15.0, 5, 2, 3), *event(6, 30.0, 5, 2, 4)])

    def test_begun_anew(self):
        self.assertEqual(run(new(), gauge(5), *switches(3), new(), events(), lost())[-2:], [[0], [0]])


class Most(unittest.TestCase):
    def test_at_most_so_many_the_oldest_first(self):
        calls = (new(), gauge(5), *switches(10))
        given = run(*calls, events(3), events(1), events(0), events(4), events(5), events(256))
        self.assertEqual(given[-6:], [[3, *switched(0, 3)], [1, *switched(3, 1)], [0], [4, *switched(4, 4)],
                                      [2, *switched(8, 2)], [0]])

    def test_0_leaves_them_waiting(self):
        given = run(new(), gauge(5), *switches(2), events(0), events(0), events(2), events(2))
        self.assertEqual(given[-4:], [[0], [0], [2, *switched(0, 2)], [0]])

    def test_as_many_as_wait_and_one_more_and_one_fewer(self):
        for most in (6, 7, 8, 255, 256):
            given = run(new(), gauge(5), *switches(7), events(most), events())
            count = min(most, 7)
            self.assertEqual(given[-2:], [[count, *switched(0, count)], [7 - count, *switched(count, 7 - count)]])

    def test_new_ones_wait_behind(self):
        given = run(new(), gauge(5), *switches(4), events(2), *switches(2, 4), events(3), events(3))
        self.assertEqual(given[6], [2, *switched(0, 2)])
        self.assertEqual(given[-2:], [[3, *switched(2, 3)], [1, *switched(5, 1)]])

    def test_not_0_to_256(self):
        for most in (-1, 257, 258, 512, -256, INT_MIN, INT_MAX):
            given = run(new(), events(most), gauge(5), *switches(3), events(most), lost(), events())
            self.assertEqual(given[1], [-2], most)
            self.assertEqual(given[-3:], [[-2], [0], [3, *switched(0, 3)]], most)

    def test_taking_them_changes_nothing_else(self):
        given = run(new(), gauge(5), *switches(3), states(), tell(32, 0), events(), states(), tell(32, 0), lost())
        self.assertEqual(given[5:7], [[0, 0, 0, 0, 32, 0, 32], [0, double(15.0)]])
        self.assertEqual(given[8:], [[0, 0, 0, 0, 32, 0, 32], [0, double(15.0)], [0]])


class Lost(unittest.TestCase):
    def test_the_256th_and_the_257th(self):
        for count, gone in ((255, 0), (256, 0), (257, 1), (258, 2), (290, 34)):
            given = run(new(), gauge(5), *switches(count), lost(), events(256), events(256), lost())
            wait = count - gone
            self.assertEqual(given[-4], [gone], count)
            self.assertEqual(given[-3], [wait, *switched(gone, wait)], count)
            self.assertEqual(given[-2:], [[0], [gone]], count)

    def test_within_one_frame(self):
        # Four frames of 64 fill it; the ten events of the fifth take the place of the ten oldest.
        calls = [new()] + [gauge(g) for g in range(64)]
        calls += [frame(ALL, [30 if i % 2 == 0 else 0], i) for i in range(4)]
        given = run(*calls, lost(), frame(2 ** 10 - 1, [30], 4), lost(), events(1), events(256), lost())
        self.assertEqual(given[69], [0])
        self.assertEqual(given[71], [10])
        self.assertEqual(given[72], [1, *event(0, 30.0, 10, 2, 4)])
        self.assertEqual(given[73][0], 255)
        self.assertEqual(given[73][1:4], event(0, 30.0, 11, 2, 4))
        self.assertEqual(given[73][-3:], event(4, 30.0, 9, 2, 4))
        self.assertEqual(given[74], [10])

    def test_many_more_than_wait(self):
        calls = [new()] + [gauge(g) for g in range(64)]
        calls += [frame(ALL, [30 if i % 2 == 0 else 0], i) for i in range(200)]
        given = run(*calls, lost(), events(1))
        self.assertEqual(given[-2:], [[64 * 196], [1, *event(196, 30.0, 0, 2, 4)]])

    def test_taking_some_makes_room(self):
        calls = (new(), gauge(5), *switches(256))
        given = run(*calls, events(2), *switches(2, 256), lost(), *switches(1, 258), lost(), events(256))
        self.assertEqual(given[258], [2, *switched(0, 2)])
        self.assertEqual(given[261], [0])
        self.assertEqual(given[263], [1])
        self.assertEqual(given[264], [256, *switched(3, 256)])

    def test_those_taken_are_not_lost(self):
        given = run(new(), gauge(5), *switches(100), events(256), *switches(100, 100), events(256), lost())
        self.assertEqual(given[-1], [0])

    def test_it_is_counted_since_gb_new(self):
        calls = (new(), gauge(5), *switches(260))
        given = run(*calls, lost(), lost(), events(256), clear(32), gauge(5), lost(), new(), lost(), gauge(5),
                    *switches(3), lost())
        self.assertEqual(given[262:264], [[4], [4]])
        self.assertEqual(given[267], [4])
        self.assertEqual(given[269], [0])
        self.assertEqual(given[-1], [0])

    def test_readings_without_an_event_lose_none(self):
        calls = (new(), gauge(5), *switches(256))
        given = run(*calls, frame(32, [0], 300), frame(32, [5], 301), frame(32 + 64, [30], 302), lost(), events(1))
        self.assertEqual(given[-2:], [[0], [1, *switched(0, 1)]])


if __name__ == "__main__":
    unittest.main()
