"""gb_clear: promise 14."""

import unittest

from tests.helper import ALL, NO_DOUBLE, NO_SINGLE
from tests.helper import clear, dial, double, event, events, frame, how, last, lost, new, point, points, put, raw, run
from tests.helper import single, states, sums, tell, trace

LIMITS = (-20.0, -10.0, 10.0, 20.0)


def gauge(g, place=0, **parts):
    return put(g, 0, place, how(limits=LIMITS, **parts))


class Cleared(unittest.TestCase):
    def test_what_the_calls_then_say(self):
        calls = (new(), gauge(5), frame(32, [30], 7), frame(32, [31], 8), clear(32))
        given = run(*calls, *[tell(32, form) for form in range(5)], raw(32, 7), dial(32), states(), trace(5, 0),
                    trace(5, 1), sums(5, 1), lost(), events(), events())
        self.assertEqual(given[4], [0])
        self.assertEqual(given[5:10], [[0, NO_DOUBLE], [0, NO_SINGLE], [0, NO_DOUBLE], [0, NO_DOUBLE], [0, NO_DOUBLE]])
        self.assertEqual(given[10:16], [[0, 0], [0, 0], [0, 0, 0, 32, 0, 0, 0], [0], [-3], [-3]])
        self.assertEqual(given[16:], [[0], [1, *event(7, 30.0, 5, 2, 4)], [0]])

    def test_it_is_no_event_from_any_state(self):
        for i, value in enumerate((-30.0, -15.0, 0.0, 15.0, 30.0)):
            calls = (new(), put(0, 0, 0, how(a=value, limits=LIMITS)), frame(1, [1], 3))
            given = run(*calls, states(), events(), clear(1), states(), events(), lost())
            self.assertEqual(given[3], [0, *[int(s == i) for s in range(5)], 1])
            self.assertEqual(given[5:], [[0], [0, 0, 0, 1, 0, 0, 0], [0], [0]])

    def test_events_that_wait_go_on_waiting(self):
        given = run(new(), gauge(5), frame(32, [15], 1), frame(32, [0], 2), clear(32), frame(32, [30], 3), events())
        self.assertEqual(given[-1], [3, *event(1, 15.0, 5, 2, 3), *event(2, 0.0, 5, 3, 2), *event(3, 30.0, 5, 2, 4)])

    def test_lost_events_stay_counted(self):
        frames = [frame(32, [15 if i % 2 == 0 else 0], i) for i in range(259)]
        given = run(new(), gauge(5), *frames, clear(32), lost(), events(1))
        self.assertEqual(given[-2:], [[3], [1, *event(3, 0.0, 5, 3, 2)]])

    def test_the_next_reading_is_as_the_first(self):
        given = run(new(), gauge(5, w=0.5, h=8.0), frame(32, [100]), frame(32, [15]), clear(32), events(),
                    frame(32, [8], 9), tell(32, 0), tell(32, 2), tell(32, 3), tell(32, 4), trace(5, 1), trace(5, 2),
                    states(), events())
        eight = [0, double(8.0)]
        # With the slack it would have stayed above.
        self.assertEqual(given[7:], [eight, eight, eight, eight, [0, single(8.0)], [-3], [0, 0, 0, 32, 0, 0, 32], [0]])

    def test_left_again_it_is_an_event_from_fine(self):
        given = run(new(), gauge(5), frame(32, [30], 1), clear(32), frame(32, [15], 2), events())
        self.assertEqual(given[-1], [2, *event(1, 30.0, 5, 2, 4), *event(2, 15.0, 5, 2, 3)])

    def test_it_stays_set_as_it_was(self):
        row = how(a=0.5, b=3.0, limits=LIMITS, lo=1.0, k=4.0)
        given = run(new(), put(5, 10, 1, row), frame(32, [0, 1, 0]), clear(32), point(5, double(132.0)),
                    points(32, {5: double(132.0)}, [7, 7, 7]), frame(32, [0, 1]), frame(32, [0, 1, 2]), tell(32, 0),
                    raw(32, 6), dial(32))
        self.assertEqual(given[4:], [[0, 1, 2, 0, 0, 0, 0, 0, 0], [0, 7, 1, 2], [-3], [0], [0, double(132.0)], [1, 258],
                                     [1, 524]])

    def test_without_readings(self):
        given = run(new(), gauge(5), clear(32), states(), tell(32, 0), clear(32), events(), frame(32, [30]), states())
        self.assertEqual(given[2:], [[0], [0, 0, 0, 32, 0, 0, 0], [0, NO_DOUBLE], [0], [0], [0],
                                     [0, 0, 0, 0, 0, 32, 32]])

    def test_a_full_trace(self):
        frames = [frame(32, [i % 256]) for i in range(260)]
        given = run(new(), gauge(5), *frames, clear(32), trace(5, 1), frame(32, [3]), trace(5, 1), trace(5, 2))
        self.assertEqual(given[-4:], [[-3], [0], [0, single(3.0)], [-3]])


class Which(unittest.TestCase):
    def test_of_0(self):
        given = run(new(), clear(0), gauge(5), frame(32, [30]), clear(0), states(), tell(32, 0), trace(5, 1))
        self.assertEqual(given[1], [0])
        self.assertEqual(given[4:], [[0], [0, 0, 0, 0, 0, 32, 32], [0, double(30.0)], [0, single(30.0)]])

    def test_all(self):
        calls = [new()] + [gauge(g, g) for g in range(64)] + [frame(ALL, [30] * 64)]
        given = run(*calls, clear(ALL), states(), tell(ALL, 0), raw(ALL, 0), events(0))
        self.assertEqual(given[66:], [[0], [0, 0, 0, ALL, 0, 0, 0], [0] + [NO_DOUBLE] * 64, [0] + [0] * 64, [0]])

    def test_only_those_in_which(self):
        calls = [new()] + [gauge(g, g) for g in range(64)] + [frame(ALL, [30] * 64)]
        for g in (0, 1, 31, 32, 62, 63):
            given = run(*calls, clear(1 << g), states(), raw(ALL, 0))
            rest = ALL - (1 << g)
            self.assertEqual(given[66:], [[0], [0, 0, 0, 1 << g, 0, rest, rest],
                                          [63] + [0 if i == g else 30 for i in range(64)]], g)


class Refused(unittest.TestCase):
    def test_one_is_not_set(self):
        self.assertEqual(run(new(), clear(1), clear(2 ** 63), clear(ALL)), [[0], [-3], [-3], [-3]])
        calls = (new(), gauge(5), frame(32, [30]))
        for which in (1, 2 ** 63, 32 + 1, 32 + 64, 32 + 2 ** 63, ALL):
            self.assertEqual(last(*calls, clear(which)), [-3], which)

    def test_nothing_is_done_then(self):
        calls = (new(), gauge(5, w=0.5), frame(32, [10], 1), frame(32, [30], 2))
        for which in (32 + 1, 32 + 64, 32 + 2 ** 63, ALL):
            given = run(*calls, clear(which), tell(32, 2), tell(32, 3), states(), trace(5, 2), events(), lost())
            self.assertEqual(given[4:], [[-3], [0, double(20.0)], [0, double(10.0)], [0, 0, 0, 0, 0, 32, 32],
                                         [0, single(10.0), single(30.0)], [1, *event(2, 30.0, 5, 2, 4)], [0]])


if __name__ == "__main__":
    unittest.main()
