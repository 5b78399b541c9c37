import contextlib
import io
import unittest

from helper import TOP, best, check, kind, more, order, places, run, set_up, split, stem, written
from logcuts.yard import answers

LINE = written([
    best(), places(), stem([(9, 1), (8, 0), (8, 2)]), kind(2, 8, 2, 10, 1), kind(1, 0, 1, 30, 2), order(1, 1),
    best(), check([(0, 1), (1, 0)]), more(0), more(1), places(), stem([(1, 10)]), order(2, 9), more(2),
    check([(0, 1), (0, 0)]), best(), stem([]), best(), check([]), more(1), places()])

# Each a stem of so many parts and so many of THREE_KINDS; then what is given back for a log from place 0
# on, for no logs, for one more of kind 0, and for places.
STEMS_AND_KINDS = (
    (0, 0, [1, -6], [3, 0, 1, 0], [1, -2], [1, 0]),
    (0, 1, [1, -6], [3, 0, 1, 0], [1, 0], [2, 0, 0]),
    (0, 3, [1, -6], [3, 0, 1, 0], [1, 0], [4, 0, 0, 0, 0]),
    (1, 0, [1, -6], [3, 0, 1, 1], [1, -2], [1, 1]),
    (1, 1, [3, 27, 1, 0], [3, 0, 1, 1], [1, 0], [3, 1, 1, 0]),
    (1, 3, [3, 27, 1, 0], [3, 0, 1, 1], [1, 0], [6, 1, 1, 0, 0, 1, 0]),
    (40, 0, [1, -6], [3, 0, 1, 40], [1, -2], [1, 40]),
    (40, 1, [3, 27, 1, 39], [3, 0, 1, 40], [1, 27], [42, 40, 40] + list(range(40))),
    (40, 3, [3, 27, 1, 39], [3, 0, 1, 40], [1, 27],
        [85, 40, 40] + list(range(40)) + [1, 0, 40] + list(range(40))),
)
THREE_KINDS = [(1, 0, 9, 3, 1), (40, 0, 9, 0, 1), (1, 3, 0, 2, 0)]


class AnswersTest(unittest.TestCase):
    def test_each_answer_stands_behind_how_many_numbers_it_has(self):
        self.assertEqual(answers(stem([])), [1, 0])
        self.assertEqual(answers(stem([(5, 0), (4, 9)])), [1, 2])
        self.assertEqual(answers(stem([(5, 10)])), [1, -1])
        self.assertEqual(answers(kind(1, 1, 1, 1, 1)), [1, 0])
        self.assertEqual(answers(order(0, 0)), [1, -2])
        self.assertEqual(answers(best()), [4, 0, 2, 1, 0])
        self.assertEqual(answers(check([])), [3, 0, 1, 0])
        self.assertEqual(answers(check([(0, 0)])), [1, -6])
        self.assertEqual(answers(more(0)), [1, -2])
        self.assertEqual(answers(places()), [1, 0])

    def test_the_forms_of_check_more_and_places(self):
        for parts, kinds, one_log, no_log, one_more, found in STEMS_AND_KINDS:
            begin = set_up([(3, 0)] * parts, THREE_KINDS[:kinds])
            ahead = answers(written(begin))
            for call, wanted in (
                    (check([(0, 0)]), one_log), (check([]), no_log), (more(0), one_more), (places(), found)):
                with self.subTest(parts=parts, kinds=kinds, call=call):
                    self.assertEqual(answers(written(begin + [call])), ahead + wanted)

    def test_the_form_of_best(self):
        line = written([stem([(3, 0), (2, 0), (1, 0)]), kind(1, 2, 0, 10, 4), best()])
        self.assertEqual(answers(line), [1, 3, 1, 0, 10, 130, 2, 1, 1, 2, 0, 0, 2, 1, 0])

    def test_calls_one_behind_another_are_about_one_stem(self):
        # Kind 0 from place 1 on and kind 1 below it: 10 * 2 * 64 + 30 * 81.
        found = [3710, 2, 1, 0, 2, 0, 1, 2, 1, 0]
        self.assertEqual(split(answers(LINE)), [
            [0, 2, 1, 0], [0], [3], [0], [1], [2],
            found, [3710, 1, 0], [0], [640], [3, 2, 0, 1, 2, 0, 1], [-1], [-2], [-2],
            [-6], found, [0], [0, 2, 1, 0], [0, 1, 0], [0], [0, 0, 0]])

    def test_rows_that_look_like_calls_are_not_taken_for_them(self):
        given = run(stem([(3, 3), (3, 3), (2, 1), (1, 0)]), kind(3, 3, 3, 3, 3), order(0, 3), best())
        self.assertEqual(given, [[4], [0], [3], [0, 2, 1, 4]])
        given = run(check([(4, 4), (6, 5), (3, 3)]), stem([(6, 6), (5, 5), (4, 4)]), check([(6, 6)]), more(6), places())
        self.assertEqual(given, [[-6], [3], [-6], [-2], [3]])

    def test_the_longest_row_that_may_be_handed_in(self):
        given = run(stem([(3, 3)] * 60), stem([(3, 3)] * 40), best())
        self.assertEqual(given, [[-1], [40], [0, 2, 1, 40]])
        given = run(check([(3, 3)] * 60), check([(TOP, TOP)] * 60), places())
        self.assertEqual(given, [[-6], [-6], [0]])

    def test_forty_calls_in_one_list(self):
        calls = [stem([(9, 0)] * 40)] + [kind(40, 0, 9, 1, 1)] * 4 + [order(0, 1), best()] * 17 + [best()]
        self.assertEqual(len(calls), 40)
        found = [3240, 2, 3, 0, 2, 0, 0]
        self.assertEqual(run(*calls), [[40], [0], [1], [2], [-5]] + [[1], found] * 17 + [found])

    def test_forty_calls_of_best(self):
        self.assertEqual(answers([3] * 40), [4, 0, 2, 1, 0] * 40)

    def test_forty_calls_of_each_sort_by_turns(self):
        calls = [stem([(2, 0)] * 3), kind(1, 0, 9, 1, 1), order(0, 2), best(), check([(2, 0)]), more(0), places()]
        given = run(*(calls * 6)[:40])
        self.assertEqual(given[:7], [[3], [0], [1], [8, 2, 3, 1, 2, 0, 0, 2, 1, 0], [4, 1, 2], [4], [3, 3, 0, 1, 2]])
        # By then there are three kinds: two logs of kind 0 and one of each other one are ordered.
        found = [12, 2, 12, 0, 2, 0, 0, 2, 1, 0, 2, 2, 1]
        self.assertEqual(given[35:], [[3], [-5], [2], found, [4, 1, 2]])

    def test_calls_may_begin_with_any(self):
        given = run(places(), check([]), more(0), best(), order(0, 0), kind(1, 0, 0, 0, 0), stem([]))
        self.assertEqual(given, [[0], [0, 1, 0], [-2], [0, 2, 1, 0], [-2], [0], [0]])

    def test_forty_of_the_longest_stems(self):
        calls = [stem([(9, 0)] * 60)] * 40
        self.assertEqual(run(*calls), [[-1]] * 40)

    def test_what_is_handed_in_stays_as_it_was(self):
        handed_in = list(LINE)
        answers(handed_in)
        self.assertEqual(handed_in, LINE)

    def test_what_is_handed_in_is_not_changed_for_a_while_either(self):
        self.assertEqual(answers(Untouchable(LINE)), answers(LINE))

    def test_nothing_is_kept_from_one_time_to_the_next(self):
        first = answers(LINE)
        kept = list(first)
        self.assertEqual(answers(best()), [4, 0, 2, 1, 0])
        self.assertEqual(answers(kind(1, 1, 1, 1, 1)), [1, 0])
        self.assertEqual(answers(order(0, 1)), [1, -2])
        self.assertEqual(answers(check([(0, 0)])), [1, -6])
        self.assertEqual(answers(more(0)), [1, -2])
        self.assertEqual(answers(places()), [1, 0])
        second = answers(LINE)
        self.assertEqual(second, kept)
        second.clear()
        self.assertEqual(first, kept)
        self.assertEqual(answers(LINE), kept)

    def test_gives_back_a_list_of_whole_numbers(self):
        given_back = answers(LINE)
        self.assertIs(type(given_back), list)
        self.assertEqual({type(number) for number in given_back}, {int})

    def test_prints_nothing(self):
        shown = io.StringIO()
        with contextlib.redirect_stdout(shown), contextlib.redirect_stderr(shown):
            answers(LINE)
        self.assertEqual(shown.getvalue(), "")


def refuse(*given):
    raise AssertionError("what was handed in is changed")


class Untouchable(list):
    """A list that tells when it is changed."""

    append = clear = extend = insert = pop = remove = reverse = sort = refuse
    __setitem__ = __delitem__ = __iadd__ = __imul__ = refuse


if __name__ == "__main__":
    unittest.main()
