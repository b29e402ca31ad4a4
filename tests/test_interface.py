"""How calls are handed in and answers given back; gb_new."""

import unittest

from gaugeboard.board import answers
from tests.helper import ALL, NO_DOUBLE, dial, double, frame, how, last, new, point, put, raw, run, tell


def long_line():
    calls = [new()]
    for g in range(64):
        calls.append(put(g, g % 16, g, how(a=g + 0.5, b=-0.25, w=0.75)))
    for i in range(5):
        calls.append(frame(ALL, [(i * 37 + j * 11) % 256 for j in range(80)], i))
    for form in range(5):
        calls.append(tell(ALL, form))
    calls.append(raw(ALL, 3))
    calls.append(dial(ALL))
    calls.append(point(5, double(77.0)))
    calls.append(point(64, 0))
    return [number for call in calls for number in call]


class Interface(unittest.TestCase):
    def test_only_new(self):
        self.assertEqual(answers([0]), [1, 0])

    def test_counts_stand_before_answers(self):
        calls = [0] + put(0, 0, 0, how()) + frame(1, [7]) + tell(1, 0) + raw(3, 0) + dial(0) + point(0, 0) + tell(1, 9)
        self.assertEqual(answers(calls), [
            1, 0, 1, 0, 1, 0, 2, 0, double(7.0), 3, 1, 7, 0, 1, 0, 9, 0, 0, 0, 0, 0, 0, 0, 0, 0, 1, -2])

    def test_gives_back_a_list_of_whole_numbers(self):
        given = answers(long_line())
        self.assertIs(type(given), list)
        self.assertEqual({type(number) for number in given}, {int})

    def test_what_is_handed_in_stays(self):
        calls = long_line()
        kept = list(calls)
        answers(calls)
        self.assertEqual(calls, kept)

    def test_what_is_handed_in_is_not_written_to(self):
        class Guarded(list):
            def refuse(self, *args, **kwargs):
                raise AssertionError("the list was written to")
            __setitem__ = __delitem__ = __iadd__ = __imul__ = refuse
            append = extend = insert = pop = remove = clear = sort = reverse = refuse
        self.assertEqual(answers(Guarded(long_line())), answers(long_line()))

    def test_the_same_list_gives_the_same_answer(self):
        calls = long_line()
        first = answers(calls)
        self.assertEqual(answers(calls), first)

    def test_the_answer_is_another_list_each_time(self):
        calls = long_line()
        first = answers(calls)
        kept = list(first)
        first.clear()
        self.assertEqual(answers(calls), kept)

    def test_nothing_is_kept_from_one_time_to_the_next(self):
        answers(long_line())
        self.assertEqual(run(new(), frame(1, [1]), tell(1, 0), point(0, 0)), [[0], [-3], [0, NO_DOUBLE], [-3]])

    def test_a_line_as_long_as_may_be(self):
        calls = new() + put(0, 6, 1016, how()) + put(63, 1, 1023, how())
        row = [0] * 1023 + [255]
        for i in range(15):
            calls += frame(1 << 63, row)
        while len(calls) <= 16000 - 3:
            calls += tell(1 << 63, 0)
        given = answers(calls)
        self.assertEqual(given[-3:], [2, 0, double(-1.0)])

    def test_three_hundred_calls(self):
        calls = [new()] + [put(g, 7, 0, how(a=0.1, b=0.3, w=0.7)) for g in range(64)]
        calls += [frame(ALL, [i % 256, 3, 5, 7, 11, 13, 17, i % 200]) for i in range(234)]
        calls += [tell(ALL, 2)]
        self.assertEqual(len(calls), 300)
        told = last(*calls)
        self.assertEqual(len(told), 65)
        self.assertEqual(set(told[1:]), {told[1]})


class New(unittest.TestCase):
    def test_answers_0(self):
        self.assertEqual(run(new(), new(), new()), [[0], [0], [0]])

    def test_no_gauge_is_set(self):
        given = run(new(), *[frame(1 << g, [0] * 1024) for g in range(64)], *[point(g, 0) for g in range(64)])
        self.assertEqual(given, [[0]] + [[-3]] * 128)

    def test_begins_anew_each_time(self):
        given = run(new(), put(0, 0, 0, how()), frame(1, [9]), tell(1, 0), new(), tell(1, 0), raw(1, 0), dial(1),
                    frame(1, [9]), point(0, 0))
        self.assertEqual(given, [[0], [0], [0], [0, double(9.0)], [0], [0, NO_DOUBLE], [0, 0], [0, 0], [-3], [-3]])

    def test_a_gauge_may_be_set_again_after_it(self):
        given = run(new(), put(0, 0, 0, how(b=1.0)), frame(1, [9]), new(), put(0, 0, 0, how(b=2.0)), tell(1, 3),
                    frame(1, [20]), tell(1, 3), tell(1, 2))
        self.assertEqual(given[5:], [[0, NO_DOUBLE], [0], [0, double(22.0)], [0, double(22.0)]])


if __name__ == "__main__":
    unittest.main()
