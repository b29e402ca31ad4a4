"""gb_states: promise 9; and how readings lead from one state to another."""

import math
import unittest

from tests.helper import ALL
from tests.helper import bytes_of, clear, double, event, events, frame, how, last, new, point, put, raw, run, states
from tests.helper import tell

LIMITS = (-20.0, -10.0, 10.0, 20.0)
# Values that lead to each state from each other one, with a slack of 3.
VALUES = (-30.0, -15.0, 0.0, 15.0, 30.0)


def value_frame(value, a=0.5):
    """A frame of gauge 0, of kind 7: readings of such values, whole multiples of a."""
    return frame(1, bytes_of(int(value / a), 7))


def state_in(given):
    """The one state that gauge 0 is in."""
    found = [state for state in range(5) if given[1 + state] == 1]
    if len(found) != 1 or sum(given[1:6]) != 1:
        raise AssertionError(f"not one state: {given}")
    return found[0]


def led(values, limits=LIMITS, h=3.0, a=0.5):
    """The states that values one behind another lead to."""
    calls = [new(), put(0, 7, 0, how(a=a, limits=limits, h=h))]
    for value in values:
        calls += [value_frame(value, a), states()]
    return [state_in(given) for given in run(*calls)[3::2]]


class Told(unittest.TestCase):
    def test_no_gauge_is_set(self):
        self.assertEqual(last(new(), states()), [0, 0, 0, 0, 0, 0, 0])

    def test_set_without_a_reading(self):
        for g in (0, 1, 31, 32, 63):
            self.assertEqual(last(new(), put(g, 0, 0, how()), states()), [0, 0, 0, 1 << g, 0, 0, 0])
        calls = [new()] + [put(g, 0, 0, how()) for g in range(64)]
        self.assertEqual(last(*calls, states()), [0, 0, 0, ALL, 0, 0, 0])

    def test_limits_do_not_count_before_a_reading(self):
        given = last(new(), put(3, 0, 0, how(limits=(5.0, 6.0, 7.0, 8.0))), states())
        self.assertEqual(given, [0, 0, 0, 8, 0, 0, 0])

    def test_one_in_each_state(self):
        calls = [new()] + [put(g, 1, i, how(limits=LIMITS)) for i, g in enumerate((63, 7, 0, 40, 9))]
        which = sum(1 << g for g in (63, 7, 0, 40, 9))
        given = last(*calls, frame(which, [226, 241, 0, 15, 30]), states())
        self.assertEqual(given, [0, 1 << 63, 1 << 7, 1, 1 << 40, 1 << 9, which])

    def test_some_with_and_some_without_a_reading(self):
        calls = (new(), put(2, 0, 0, how(limits=LIMITS)), put(4, 0, 0, how(limits=LIMITS)), put(5, 0, 0, how()))
        given = run(*calls, frame(4, [15]), states(), frame(4 + 16, [5]), states())
        self.assertEqual(given[5], [0, 0, 0, 16 + 32, 4, 0, 4])
        self.assertEqual(given[7], [0, 0, 0, 4 + 16 + 32, 0, 0, 4 + 16])

    def test_all_64_in_all_states(self):
        calls = [new()] + [put(g, 1, g, how(limits=LIMITS)) for g in range(64)]
        row = [(226, 241, 0, 15, 30)[g % 5] for g in range(64)]
        wanted = [sum(1 << g for g in range(s, 64, 5)) for s in range(5)]
        self.assertEqual(last(*calls, frame(ALL, row), states()), [0, *wanted, ALL])

    def test_set_again_it_is_fine_and_without_a_reading(self):
        calls = (new(), put(0, 0, 0, how(limits=LIMITS)), put(1, 0, 0, how(limits=LIMITS)), frame(3, [30]))
        given = run(*calls, states(), put(0, 0, 0, how(limits=LIMITS)), states(), events())
        self.assertEqual(given[4], [0, 0, 0, 0, 0, 3, 3])
        self.assertEqual(given[6], [0, 0, 0, 1, 0, 2, 2])
        self.assertEqual(given[7], [2, *event(0, 30.0, 0, 2, 4), *event(0, 30.0, 1, 2, 4)])

    def test_begun_anew(self):
        calls = (new(), put(0, 0, 0, how(limits=LIMITS)), frame(1, [30]), new(), states())
        self.assertEqual(last(*calls), [0, 0, 0, 0, 0, 0, 0])

    def test_asking_changes_nothing(self):
        calls = (new(), put(0, 0, 0, how(limits=LIMITS)), frame(1, [30]))
        given = run(*calls, states(), states(), tell(1, 0), events(), states())
        self.assertEqual(given[3], [0, 0, 0, 0, 0, 1, 1])
        self.assertEqual(given[3], given[4])
        self.assertEqual(given[3], given[7])
        self.assertEqual(given[5], [0, double(30.0)])

    def test_refusals_change_no_state(self):
        calls = (new(), put(0, 0, 0, how(limits=LIMITS)), frame(1, [15]))
        wrong = (frame(3, [30]), frame(1, []), put(0, 16, 0, how()), put(0, 0, 0, how(w=0.0)), clear(3), tell(1, 5),
                 raw(1, 8), point(64, 0), events(257))
        for call in wrong:
            given = run(*calls, call, states(), events())
            self.assertIn(given[3], ([-2], [-3]))
            self.assertEqual(given[4], [0, 0, 0, 0, 1, 0, 1])
            self.assertEqual(given[5], [1, *event(0, 15.0, 0, 2, 3)])


class Zones(unittest.TestCase):
    def test_limits_themselves_are_inside(self):
        for value, wanted in ((-20.5, 0), (-20.0, 1), (-19.5, 1), (-10.5, 1), (-10.0, 2), (-9.5, 2), (0.0, 2),
                              (9.5, 2), (10.0, 2), (10.5, 3), (19.5, 3), (20.0, 3), (20.5, 4), (-1e15, 0), (1e15, 4)):
            self.assertEqual(led([value]), [wanted], value)

    def test_a_last_bit_beside_a_limit(self):
        for i, limit in enumerate(LIMITS):
            for towards, wanted in ((-math.inf, (0, 1, 2, 3)[i]), (math.inf, (1, 2, 3, 4)[i])):
                row = how(a=math.nextafter(limit, towards), limits=LIMITS)
                given = last(new(), put(0, 0, 0, row), frame(1, [1]), states())
                self.assertEqual(state_in(given), wanted, (limit, towards))

    def test_equal_limits(self):
        for value, wanted in ((4.5, 0), (5.0, 2), (5.5, 4)):
            self.assertEqual(led([value], (5.0, 5.0, 5.0, 5.0)), [wanted])
        for value, wanted in ((4.5, 0), (5.0, 2), (5.5, 3), (6.0, 3), (6.5, 4)):
            self.assertEqual(led([value], (5.0, 5.0, 5.0, 6.0)), [wanted])
        for value, wanted in ((3.5, 0), (4.0, 1), (5.0, 2), (5.5, 4)):
            self.assertEqual(led([value], (4.0, 5.0, 5.0, 5.0)), [wanted])

    def test_by_the_value_not_smoothed_nor_read(self):
        row = how(a=-1.0, b=5.0, w=0.25, limits=LIMITS)
        given = run(new(), put(0, 0, 0, row), frame(1, [5]), states(), frame(1, [20]), states(), frame(1, [40]),
                    states())
        self.assertEqual([state_in(given[i]) for i in (3, 5, 7)], [2, 1, 0])


class Changes(unittest.TestCase):
    def test_from_each_state_to_each_other_one(self):
        for before in range(5):
            for now in range(5):
                for h in (0.0, 3.0):
                    row = how(a=0.5, limits=LIMITS, h=h)
                    given = run(new(), put(0, 7, 0, row), value_frame(VALUES[before]), states(), events(),
                                value_frame(VALUES[now]), states(), events())
                    self.assertEqual(state_in(given[3]), before)
                    self.assertEqual(state_in(given[6]), now, (before, now, h))
                    wanted = [0] if before == now else [1, *event(0, VALUES[now], 0, before, now)]
                    self.assertEqual(given[7], wanted, (before, now, h))

    def test_the_first_value_that_leads_from_each_to_each_other(self):
        # With a slack of 3: the value nearest to where it is, and the one half a step before it, with its state.
        for before, now, value, short, stays in (
                (0, 1, -17.0, -17.5, 0), (0, 2, -7.0, -7.5, 1), (0, 3, 10.5, 10.0, 2), (0, 4, 20.5, 20.0, 3),
                (1, 0, -20.5, -20.0, 1), (1, 2, -7.0, -7.5, 1), (1, 3, 10.5, 10.0, 2), (1, 4, 20.5, 20.0, 3),
                (2, 0, -20.5, -20.0, 1), (2, 1, -10.5, -10.0, 2), (2, 3, 10.5, 10.0, 2), (2, 4, 20.5, 20.0, 3),
                (3, 0, -20.5, -20.0, 1), (3, 1, -10.5, -10.0, 2), (3, 2, 7.0, 7.5, 3), (3, 4, 20.5, 20.0, 3),
                (4, 0, -20.5, -20.0, 1), (4, 1, -10.5, -10.0, 2), (4, 2, 7.0, 7.5, 3), (4, 3, 17.0, 17.5, 4)):
            self.assertEqual(led([VALUES[before], value]), [before, now], (before, now))
            self.assertEqual(led([VALUES[before], short]), [before, stays], (before, now))

    def test_back_from_below_needs_the_slack(self):
        self.assertEqual(led([-15.0, -10.0, -7.5, -7.0]), [1, 1, 1, 2])
        self.assertEqual(led([-30.0, -20.0, -17.5, -17.0, -7.5, -7.0]), [0, 0, 0, 1, 1, 2])
        self.assertEqual(led([-30.0, -7.0]), [0, 2])

    def test_back_from_above_needs_the_slack(self):
        self.assertEqual(led([15.0, 10.0, 7.5, 7.0]), [3, 3, 3, 2])
        self.assertEqual(led([30.0, 20.0, 17.5, 17.0, 7.5, 7.0]), [4, 4, 4, 3, 3, 2])
        self.assertEqual(led([30.0, 7.0]), [4, 2])

    def test_to_the_other_side(self):
        self.assertEqual(led([-30.0, 15.0, -15.0, 30.0, -30.0]), [0, 3, 1, 4, 0])

    def test_without_slack(self):
        self.assertEqual(led([-15.0, -10.0, 15.0, 10.0], h=0.0), [1, 2, 3, 2])
        self.assertEqual(led([-20.5, -20.0, -10.0, 20.5, 20.0, 10.0], h=0.0), [0, 1, 2, 4, 3, 2])

    def test_a_slack_wider_than_the_limits(self):
        # From 1 with l1 + h at 30: up to there it stays, what lies beyond is far above already.
        self.assertEqual(led([-15.0, 15.0, 25.0, 29.5, 30.0], h=40.0), [1, 1, 1, 1, 4])
        self.assertEqual(led([15.0, -15.0, -25.0], h=40.0), [3, 1, 0])
        # From 3 or 4 with l2 - h at -30 and l3 - h at -20: l0 and l1 are asked first, what is above them is 4.
        self.assertEqual(led([15.0, -9.5, -10.0, -10.5], h=40.0), [3, 3, 3, 1])
        self.assertEqual(led([30.0, -9.5, -10.0, -10.5], h=40.0), [4, 4, 4, 1])
        self.assertEqual(led([30.0, -20.5], h=40.0), [4, 0])
        # From 0 with l0 + h at 20 and l1 + h at 30.
        self.assertEqual(led([-30.0, 19.5, 20.0, 29.5, 30.0], h=40.0), [0, 0, 1, 1, 4])

    def test_the_slack_does_not_keep_it_from_going_farther_out(self):
        self.assertEqual(led([-15.0, -20.5], h=40.0), [1, 0])
        self.assertEqual(led([15.0, 20.5], h=40.0), [3, 4])

    def test_limits_with_slack_are_made_doubles(self):
        # 2^53 + 1 is 2^53 as a double, so 2^53 is back already.
        far = 2.0 ** 55
        self.assertEqual(led([0.0, 2.0 ** 53], (-1.0, 2.0 ** 53, far, far), 1.0, 1.0), [1, 2])
        self.assertEqual(led([0.0, -2.0 ** 53], (-far, -far, -2.0 ** 53, 1.0), 1.0, 1.0), [3, 2])
        self.assertEqual(led([0.0, 2.0 ** 53], (2.0 ** 53, 2.0 ** 54, far, far), 1.0, 1.0), [0, 1])
        self.assertEqual(led([0.0, -2.0 ** 53], (-far, -far, -2.0 ** 54, -2.0 ** 53), 1.0, 1.0), [4, 3])

    def test_limits_with_slack_are_made_the_even_double_up_too(self):
        # 2^53 + 3 is 2^53 + 4 as a double: made the lower one, 2^53 + 2 would be back already.
        far = 2.0 ** 55
        limits = (-1.0, 2.0 ** 53, far, far)
        self.assertEqual(led([0.0, 2.0 ** 53 + 2, 2.0 ** 53 + 4], limits, 3.0, 1.0), [1, 1, 2])
        limits = (-far, -far, -2.0 ** 53, 1.0)
        self.assertEqual(led([0.0, -2.0 ** 53 - 2, -2.0 ** 53 - 4], limits, 3.0, 1.0), [3, 3, 2])

    def test_each_gauge_has_its_own(self):
        calls = (new(), put(0, 0, 0, how(limits=LIMITS, h=3.0)), put(1, 0, 0, how(limits=LIMITS, h=0.0)),
                 put(2, 0, 0, how(limits=(1.0, 2.0, 3.0, 4.0))))
        given = run(*calls, frame(7, [15]), states(), frame(7, [9]), states(), frame(2, [15]), states())
        self.assertEqual(given[5], [0, 0, 0, 0, 3, 4, 7])
        self.assertEqual(given[7], [0, 0, 0, 2, 1, 4, 7])
        self.assertEqual(given[9], [0, 0, 0, 0, 3, 4, 7])


if __name__ == "__main__":
    unittest.main()
