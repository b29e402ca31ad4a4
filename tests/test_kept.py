"""What a reading leaves that no call tells yet: the state, the events and the trace, looked at from within.

These tests know how the package is laid out. Where it is laid out otherwise there is nothing to look at, and they are
left out: promises 1 to 7 are tested through the interface alone.
"""

import unittest

from tests.helper import double, how, single

try:
    from gaugeboard.board import Board, answer
    from gaugeboard.doubles import double_bits, single_bits, steps_of
    from gaugeboard.states import state_after, zone
except ImportError as missing:
    raise unittest.SkipTest(f"laid out otherwise: {missing}")

LIMITS = (-20.0, -10.0, 10.0, 20.0)


def steps(number):
    return steps_of(double(number))


def states(numbers, limits=LIMITS, h=3.0):
    """The states that values one behind another lead to."""
    found = [2]
    for number in numbers:
        found.append(state_after(found[-1], steps(number), [steps(limit) for limit in limits], steps(h)))
    return found[1:]


def board_of(kind, row, numbers, begin=0):
    """A board whose gauge 5 has read these bytes, at the times from begin on."""
    board = Board()
    board.gb_set(5, kind, 0, row)
    for i, number in enumerate(numbers):
        board.gb_frame(32, begin + i, [number])
    return board


class Zones(unittest.TestCase):
    def test_limits_themselves_are_inside(self):
        limits = [steps(limit) for limit in LIMITS]
        for number, wanted in ((-21.0, 0), (-20.0, 1), (-11.0, 1), (-10.0, 2), (0.0, 2), (10.0, 2), (11.0, 3),
                               (20.0, 3), (21.0, 4)):
            self.assertEqual(zone(steps(number), limits), wanted, number)

    def test_limits_out_of_order(self):
        self.assertEqual([zone(y, [5, 9, 3, 4]) for y in (4, 5, 8, 9, 10)], [0, 1, 1, 4, 4])
        self.assertEqual([zone(y, [5, 7, 2, 9]) for y in (4, 6, 7, 9, 10)], [0, 1, 3, 3, 4])
        self.assertEqual([zone(y, [5, 7, 9, 2]) for y in (4, 6, 7, 8)], [0, 1, 4, 4])


class States(unittest.TestCase):
    def test_from_fine(self):
        for number, wanted in ((-30.0, 0), (-15.0, 1), (0.0, 2), (15.0, 3), (30.0, 4)):
            self.assertEqual(states([number]), [wanted])

    def test_back_from_below_needs_the_slack(self):
        self.assertEqual(states([-15.0, -10.0, -7.5, -7.0]), [1, 1, 1, 2])
        self.assertEqual(states([-30.0, -20.0, -17.5, -17.0, -7.5, -7.0]), [0, 0, 0, 1, 1, 2])
        self.assertEqual(states([-30.0, -7.0]), [0, 2])

    def test_back_from_above_needs_the_slack(self):
        self.assertEqual(states([15.0, 10.0, 7.5, 7.0]), [3, 3, 3, 2])
        self.assertEqual(states([30.0, 20.0, 17.5, 17.0, 7.5, 7.0]), [4, 4, 4, 3, 3, 2])
        self.assertEqual(states([30.0, 7.0]), [4, 2])

    def test_farther_out_at_once(self):
        self.assertEqual(states([-15.0, -20.5]), [1, 0])
        self.assertEqual(states([15.0, 20.5]), [3, 4])

    def test_to_the_other_side(self):
        self.assertEqual(states([-30.0, 15.0, -15.0, 30.0, -30.0]), [0, 3, 1, 4, 0])

    def test_without_slack(self):
        self.assertEqual(states([-15.0, -10.0, 15.0, 10.0], h=0.0), [1, 2, 3, 2])

    def test_a_slack_wider_than_the_limits(self):
        self.assertEqual(states([-15.0, 15.0, 25.0, 35.0], h=40.0), [1, 1, 1, 4])
        self.assertEqual(states([15.0, -15.0, -25.0], h=40.0), [3, 1, 0])

    def test_limits_with_slack_are_made_doubles(self):
        # 2^53 + 1 is 2^53 as a double, so 2^53 is back already.
        limits = (-1.0, 2.0 ** 53, 2.0 ** 55, 2.0 ** 55)
        self.assertEqual(states([0.0, 2.0 ** 53], limits, 1.0), [1, 2])
        limits = (-2.0 ** 55, -2.0 ** 55, -2.0 ** 53, 1.0)
        self.assertEqual(states([0.0, -2.0 ** 53], limits, 1.0), [3, 2])
        limits = (2.0 ** 53, 2.0 ** 54, 2.0 ** 55, 2.0 ** 55)
        self.assertEqual(states([0.0, 2.0 ** 53], limits, 1.0), [0, 1])
        limits = (-2.0 ** 55, -2.0 ** 55, -2.0 ** 54, -2.0 ** 53)
        self.assertEqual(states([0.0, -2.0 ** 53], limits, 1.0), [4, 3])

    def test_the_slack_that_was_set(self):
        board = board_of(0, how(limits=LIMITS, h=3.0, lo=1.0), [15, 8])
        self.assertEqual(board.gauges[5].state, 3)
        board.gb_frame(32, 0, [7])
        self.assertEqual(board.gauges[5].state, 2)


class Events(unittest.TestCase):
    def test_only_changes(self):
        board = board_of(1, how(limits=LIMITS), [0, 15, 16, 0, 0, 246, 226], 100)
        kept = [(time, double_bits(value), g, before, now) for time, value, g, before, now in board.events]
        self.assertEqual(kept, [(101, double(15.0), 5, 2, 3), (103, 0, 5, 3, 2), (106, double(-30.0), 5, 2, 0)])
        self.assertEqual(board.lost, 0)

    def test_the_time_that_was_handed_in(self):
        board = board_of(0, how(limits=LIMITS), [])
        answer(board, 2, [32, 2 ** 64 - 1, [30]])
        self.assertEqual([event[0] for event in board.events], [2 ** 64 - 1])

    def test_the_oldest_are_lost_and_counted(self):
        board = board_of(0, how(limits=LIMITS), [15, 0] * 128)
        self.assertEqual((len(board.events), board.lost, board.events[0][0]), (256, 0, 0))
        board = board_of(0, how(limits=LIMITS), [15, 0] * 129 + [15])
        self.assertEqual((len(board.events), board.lost, board.events[0][0], board.events[-1][0]), (256, 3, 3, 258))

    def test_in_the_order_of_the_gauges(self):
        board = Board()
        for g in (9, 2, 63):
            board.gb_set(g, 0, 0, how(limits=LIMITS))
        board.gb_frame(2 ** 63 + 2 ** 9 + 2 ** 2, 7, [30])
        self.assertEqual([(event[0], event[2], event[4]) for event in board.events], [(7, 2, 4), (7, 9, 4), (7, 63, 4)])

    def test_setting_again_is_no_event_and_takes_none(self):
        board = board_of(0, how(limits=LIMITS), [15])
        board.gb_set(5, 0, 0, how(limits=LIMITS))
        self.assertEqual((len(board.events), board.gauges[5].state, board.gauges[5].trace), (1, 2, []))

    def test_a_refused_frame_leaves_none(self):
        board = board_of(0, how(limits=LIMITS), [0])
        self.assertEqual(board.gb_frame(32 + 64, 1, [30]), [-3])
        self.assertEqual((board.events, board.gauges[5].state, len(board.gauges[5].trace)), ([], 2, 1))


class Trace(unittest.TestCase):
    def test_each_is_made_a_single(self):
        board = board_of(0, how(a=0.1), [1, 2, 3])
        told = [single_bits(number) for number in board.gauges[5].trace]
        self.assertEqual(told, [single(0.1), single(0.2), single(float(0.1 * 3))])

    def test_the_last_256(self):
        board = board_of(0, how(), [i % 251 for i in range(260)])
        told = [single_bits(number) for number in board.gauges[5].trace]
        self.assertEqual(told, [single(float(i % 251)) for i in range(4, 260)])


if __name__ == "__main__":
    unittest.main()
