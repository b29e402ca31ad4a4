"""How calls are handed in and answers given back; gb_new."""

import unittest

from gaugeboard.board import answers
from tests.helper import ALL, NO_DOUBLE
from tests.helper import clear, dial, double, event, events, frame, how, last, lost, new, point, points, put, raw, run
from tests.helper import single, split, states, sums, tell, trace


def long_line():
    calls = [new()]
    for g in range(64):
        calls.append(put(g, g % 16, g, how(a=g + 0.5, b=-0.25, w=0.75)))
    for i in range(5):
        calls.append(frame(ALL, [(i * 37 + j * 11) % 256 for j in range(80)], i))
    for form in range(5):
        calls.append(tell(ALL, form))
    calls.append(raw(ALL, 3))
    calls.append(dial(ALL))
    calls.append(point(5, double(77.0)))
    calls.append(point(64, 0))
    calls.append(points(ALL, {g: double(3.0 * g) for g in range(64)}, [i % 256 for i in range(80)]))
    calls += [states(), events(100), lost(), trace(5, 4), sums(6, 5), clear(ALL - 1), states()]
    calls += [trace(0, 5), trace(1, 1)]
    return [number for call in calls for number in call]


class Interface(unittest.TestCase):
    def test_only_new(self):
        self.assertEqual(answers([0]), [1, 0])

    def test_counts_stand_before_answers(self):
        calls = [0] + put(0, 0, 0, how()) + frame(1, [7]) + tell(1, 0) + raw(3, 0) + dial(0) + point(0, 0) + tell(1, 9)
        self.assertEqual(answers(calls), [
            1, 0, 1, 0, 1, 0, 2, 0, double(7.0), 3, 1, 7, 0, 1, 0, 9, 0, 0, 0, 0, 0, 0, 0, 0, 0, 1, -2])

    def test_counts_stand_before_the_answers_of_the_other_calls(self):
        calls = [0] + put(0, 0, 1, how()) + frame(1, [9, 4], 77) + points(1, {0: double(300.0)}, [9, 8, 7])
        calls += states() + events(5) + lost() + trace(0, 1) + sums(0, 1) + clear(1) + trace(0, 0)
        calls += events(-1) + clear(2)
        four = double(4.0)
        self.assertEqual(answers(calls), [
            1, 0, 1, 0, 1, 0, 4, 1, 9, 255, 7, 7, 0, 0, 0, 0, 0, 1, 1, 4, 1, *event(77, 4.0, 0, 2, 4), 1, 0,
            2, 0, single(4.0), 5, 0, four, double(16.0), four, four, 1, 0, 1, 0, 1, -2, 1, -3])

    def test_handed_in_as_told(self):
        self.assertEqual(points(5, {1: 6}, [7, 8]), [7, 5, 64, 0, 6] + [0] * 62 + [2, 7, 8])
        self.assertEqual([states(), events(3), lost(), trace(4, 5), sums(6, 7), clear(8)],
                         [[8], [9, 3], [10], [11, 4, 5], [12, 6, 7], [13, 8]])

    def test_gives_back_a_list_of_whole_numbers(self):
        given = answers(long_line())
        self.assertIs(type(given), list)
        self.assertEqual({type(number) for number in given}, {int})

    def test_what_is_handed_in_stays(self):
        calls = long_line()
        kept = list(calls)
        answers(calls)
        self.assertEqual(calls, kept)

    def test_what_is_handed_in_is_not_written_to(self):
        class Guarded(list):
            def refuse(self, *args, **kwargs):
                raise AssertionError("the list was written to")
            __setitem__ = __delitem__ = __iadd__ = __imul__ = refuse
            append = extend = insert = pop = remove = clear = sort = reverse = refuse
        self.assertEqual(answers(Guarded(long_line())), answers(long_line()))

    def test_the_same_list_gives_the_same_answer(self):
        calls = long_line()
        first = answers(calls)
        self.assertEqual(answers(calls), first)

    def test_the_answer_is_another_list_each_time(self):
        calls = long_line()
        first = answers(calls)
        kept = list(first)
        first.clear()
        self.assertEqual(answers(calls), kept)

    def test_nothing_is_kept_from_one_time_to_the_next(self):
        answers(long_line())
        given = run(new(), frame(1, [1]), tell(1, 0), point(0, 0), points(1, {}, [1]), states(), events(), lost(),
                    trace(0, 1), sums(0, 1), clear(1))
        self.assertEqual(given, [[0], [-3], [0, NO_DOUBLE], [-3], [-3], [0, 0, 0, 0, 0, 0, 0], [0], [0], [-3], [-3],
                                 [-3]])

    def test_a_list_of_16000_numbers(self):
        calls = [new(), put(0, 6, 1016, how()), put(63, 1, 1023, how())]
        row = [i % 256 for i in range(1023)] + [255]
        calls += [frame(1 << 63, row, i) for i in range(8)]
        calls += [points(1 << 63, {63: double(-2.0)}, row) for i in range(6)]
        calls += [trace(63, 8), sums(63, 8), states(), events()]
        rest = 16000 - sum(len(call) for call in calls)
        calls += [frame(0, [1] * (rest - 4 - 3)), tell(1 << 63, 0)]
        numbers = [number for call in calls for number in call]
        self.assertEqual(len(numbers), 16000)
        kept = list(numbers)
        first = answers(numbers)
        self.assertEqual(numbers, kept)
        self.assertEqual(answers(numbers), first)
        given = split(first, len(calls))
        self.assertEqual(given[11:17], [[0] + row[:1023] + [254]] * 6)
        self.assertEqual(given[17], [0] + [single(-1.0)] * 8)
        self.assertEqual(given[18], [0, double(-8.0), double(8.0), double(-1.0), double(-1.0)])
        self.assertEqual(given[19:], [[0, 0, 0, 1 + 2 ** 63, 0, 0, 2 ** 63], [0], [0], [0, double(-1.0)]])

    def test_three_hundred_calls(self):
        calls = [new()] + [put(g, 7, 0, how(a=0.1, b=0.3, w=0.7)) for g in range(64)]
        calls += [frame(ALL, [i % 256, 3, 5, 7, 11, 13, 17, i % 200]) for i in range(234)]
        calls += [tell(ALL, 2)]
        self.assertEqual(len(calls), 300)
        told = last(*calls)
        self.assertEqual(len(told), 65)
        self.assertEqual(set(told[1:]), {told[1]})

    def test_three_hundred_calls_of_all_sorts(self):
        calls = [new(), put(5, 0, 0, how())]
        while len(calls) < 290:
            i = len(calls)
            calls.append(frame(32, [i % 2 * 5], i))
        calls += [states(), lost(), events(256), events(256), trace(5, 256), sums(5, 256), clear(32), states(),
                  points(32, {5: double(4.0)}, [9]), lost()]
        self.assertEqual(len(calls), 300)
        numbers = [number for call in calls for number in call]
        kept = list(numbers)
        first = answers(numbers)
        self.assertEqual(numbers, kept)
        self.assertEqual(answers(numbers), first)
        given = split(first, 300)
        # The frames 3 to 289 are readings of 5 and 0 by turns: 287 events, 31 of them lost.
        self.assertEqual(given[290:292], [[0, 0, 0, 0, 0, 32, 32], [31]])
        self.assertEqual(given[292][:4], [256, *event(34, 0.0, 5, 4, 2)])
        self.assertEqual(given[292][-3:], event(289, 5.0, 5, 2, 4))
        self.assertEqual(given[293:295], [[0], [0] + [0, single(5.0)] * 128])
        self.assertEqual(given[295], [0, double(640.0), double(3200.0), 0, double(5.0)])
        self.assertEqual(given[296:], [[0], [0, 0, 0, 32, 0, 0, 0], [0, 4], [31]])


class New(unittest.TestCase):
    def test_answers_0(self):
        self.assertEqual(run(new(), new(), new()), [[0], [0], [0]])

    def test_no_gauge_is_set(self):
        given = run(new(), *[frame(1 << g, [0] * 1024) for g in range(64)], *[point(g, 0) for g in range(64)])
        self.assertEqual(given, [[0]] + [[-3]] * 128)

    def test_begins_anew_each_time(self):
        given = run(new(), put(0, 0, 0, how()), frame(1, [9]), tell(1, 0), new(), tell(1, 0), raw(1, 0), dial(1),
                    frame(1, [9]), point(0, 0))
        self.assertEqual(given, [[0], [0], [0], [0, double(9.0)], [0], [0, NO_DOUBLE], [0, 0], [0, 0], [-3], [-3]])

    def test_nothing_waits_and_nothing_was_lost(self):
        frames = [frame(1, [i % 2 * 9]) for i in range(260)]
        given = run(new(), put(0, 0, 0, how()), *frames, lost(), new(), lost(), events(), states(), trace(0, 1),
                    sums(0, 1), clear(1))
        self.assertEqual(given[-8:], [[3], [0], [0], [0], [0, 0, 0, 0, 0, 0, 0], [-3], [-3], [-3]])

    def test_a_gauge_may_be_set_again_after_it(self):
        given = run(new(), put(0, 0, 0, how(b=1.0)), frame(1, [9]), new(), put(0, 0, 0, how(b=2.0)), tell(1, 3),
                    frame(1, [20]), tell(1, 3), tell(1, 2))
        self.assertEqual(given[5:], [[0, NO_DOUBLE], [0], [0, double(22.0)], [0, double(22.0)]])


if __name__ == "__main__":
    unittest.main()
