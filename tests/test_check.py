import itertools
import unittest

from helper import (
    TOP, Numbers, all_cuttings, best, best_answer, check, cutting_worth, kind, order, run, set_up, small_case, stem)

REFUSED = [-6]
# Kind 0 is fit for the parts 0 to 3, kind 1 for every part, kind 2 for those that are 6 thick.
PARTS = [(9, 1), (8, 0), (7, 2), (6, 2), (5, 3), (4, 9)]
KINDS = [(2, 0, 2, 10, 2), (1, 0, 9, 3, 3), (3, 6, 9, 1, 1)]


def check_of(parts, kinds, logs):
    return run(*set_up(parts, kinds), check(logs))[-1]


class NoLogsTest(unittest.TestCase):
    def test_no_logs_are_a_cutting(self):
        for many in (0, 1, 40):
            for kinds in ([], KINDS[:1], KINDS):
                self.assertEqual(check_of([(9, 0)] * many, kinds, []), [0, 1, many])

    def test_no_logs_with_none_ordered(self):
        self.assertEqual(check_of([(9, 0)] * 7, [(1, 0, 9, 5, 0)], []), [0, 1, 7])

    def test_on_a_new_object(self):
        self.assertEqual(run(check([]), check([(0, 0)])), [[0, 1, 0], REFUSED])


class CuttingTest(unittest.TestCase):
    def answer(self, *logs):
        return check_of(PARTS, KINDS, logs)

    def test_one_log(self):
        self.assertEqual(self.answer((0, 0)), [10 * 2 * 64, 1, 4])
        self.assertEqual(self.answer((5, 1)), [3 * 16, 1, 5])
        self.assertEqual(self.answer((1, 2)), [3 * 36, 1, 3])

    def test_logs_that_touch(self):
        self.assertEqual(self.answer((0, 0), (2, 0)), [20 * 64 + 20 * 36, 1, 2])
        self.assertEqual(self.answer((0, 0), (2, 0), (4, 1), (5, 1)), [1280 + 720 + 75 + 48, 1, 0])
        self.assertEqual(self.answer((0, 1), (1, 2), (4, 1)), [243 + 108 + 75, 1, 1])

    def test_waste_between_the_logs(self):
        self.assertEqual(self.answer((0, 1), (2, 0), (5, 1)), [243 + 720 + 48, 1, 2])

    def test_waste_below_the_logs(self):
        self.assertEqual(self.answer((2, 0), (4, 1), (5, 1)), [720 + 75 + 48, 1, 2])

    def test_waste_above_the_logs(self):
        self.assertEqual(self.answer((0, 1), (1, 0)), [243 + 980, 1, 3])

    def test_waste_below_between_and_above_the_logs(self):
        self.assertEqual(self.answer((1, 1), (4, 1)), [192 + 75, 1, 4])

    def test_one_log_that_is_the_whole_stem(self):
        self.assertEqual(check_of([(100, 0)] * 40, [(40, 100, 0, 1000, 1)], [(0, 0)]), [400000000, 1, 0])
        self.assertEqual(check_of([(5, 0)], [(1, 5, 0, 2, 1)], [(0, 0)]), [50, 1, 0])

    def test_a_log_worth_nothing_is_no_waste(self):
        self.assertEqual(check_of([(9, 0)] * 3, [(2, 0, 9, 0, 1)], [(1, 0)]), [0, 1, 1])

    def test_twelve_logs_on_a_long_stem(self):
        logs = [(3 * at + 1, at % 3) for at in range(12)]
        kinds = [(1, 0, 9, 1, 4), (2, 0, 9, 1, 4), (3, 0, 9, 1, 4)]
        self.assertEqual(check_of([(10, 0)] * 40, kinds, logs), [100 * 24, 1, 16])

    def test_a_cutting_that_is_not_the_best(self):
        given = run(*set_up(PARTS, KINDS), check([(5, 1)]), best())
        self.assertEqual(given[-2], [48, 1, 5])
        self.assertGreater(given[-1][0], 48)


class NoCuttingTest(unittest.TestCase):
    def refuse(self, *logs):
        self.assertEqual(check_of(PARTS, KINDS, logs), REFUSED)

    def test_a_log_that_begins_before_the_one_below_it_ends(self):
        self.refuse((0, 0), (1, 0))
        self.refuse((0, 0), (1, 1))
        self.refuse((0, 2), (2, 1))
        self.refuse((0, 1), (1, 0), (2, 1))

    def test_two_logs_from_one_place_on(self):
        self.refuse((3, 1), (3, 1))
        self.refuse((0, 1), (0, 0))

    def test_logs_told_from_above(self):
        self.refuse((2, 0), (0, 0))
        self.refuse((5, 1), (4, 1))
        self.refuse((0, 1), (4, 1), (2, 0))

    def test_a_place_beyond_the_stem(self):
        for place in (6, 7, 40, TOP):
            self.refuse((place, 1))
            self.refuse((0, 0), (place, 1))
        self.assertEqual(check_of([], KINDS, [(0, 1)]), REFUSED)
        self.assertEqual(check_of([(9, 0)] * 40, KINDS, [(40, 1)]), REFUSED)

    def test_an_end_beyond_the_stem(self):
        for place in (2, 3, 4):
            self.assertEqual(check_of([(9, 0)] * 4, [(3, 0, 9, 1, 4)], [(place, 0)]), REFUSED)
        self.assertEqual(check_of([(9, 0)] * 4, [(3, 0, 9, 1, 4)], [(1, 0)]), [243, 1, 1])
        self.assertEqual(check_of([(9, 0)] * 40, [(40, 0, 9, 1, 4)], [(1, 0)]), REFUSED)
        self.assertEqual(check_of([(9, 0)] * 39, [(40, 0, 9, 1, 4)], [(0, 0)]), REFUSED)

    def test_a_part_too_thin(self):
        self.refuse((2, 2))
        self.assertEqual(check_of([(9, 0), (8, 0)], [(2, 9, 9, 1, 1)], [(0, 0)]), REFUSED)
        self.assertEqual(check_of([(9, 0), (8, 0)], [(2, 8, 9, 1, 1)], [(0, 0)]), [128, 1, 0])
        self.assertEqual(check_of([(99, 0)], [(1, 100, 9, 1, 1)], [(0, 0)]), REFUSED)

    def test_a_part_of_a_worse_grade(self):
        self.refuse((3, 0))
        for at in range(3):
            parts = [(9, 0)] * 3
            parts[at] = (9, 5)
            self.assertEqual(check_of(parts, [(3, 0, 4, 1, 1)], [(0, 0)]), REFUSED)
            self.assertEqual(check_of(parts, [(3, 0, 5, 1, 1)], [(0, 0)]), [243, 1, 0])

    def test_a_kind_that_there_is_not(self):
        for number in (3, 4, TOP):
            self.refuse((0, number))
            self.refuse((0, 1), (1, number))
            self.refuse((0, number), (1, 1))
        self.assertEqual(check_of(PARTS, [], [(0, 0)]), REFUSED)
        self.assertEqual(check_of(PARTS, KINDS[:1], [(0, 1)]), REFUSED)
        self.assertEqual(check_of(PARTS, KINDS[:2], [(0, 2)]), REFUSED)

    def test_a_place_and_a_kind_that_there_are_not(self):
        self.refuse((TOP, TOP))
        self.refuse((0, 1), (TOP, TOP))

    def test_more_of_a_kind_than_ordered(self):
        for ordered in range(5):
            kinds = [(1, 0, 9, 3, ordered), (1, 0, 9, 1, 4)]
            logs = [(place, 0) for place in range(ordered)]
            self.assertEqual(check_of([(2, 0)] * 9, kinds, logs), [12 * ordered, 1, 9 - ordered])
            self.assertEqual(check_of([(2, 0)] * 9, kinds, logs + [(ordered, 0)]), REFUSED)
            self.assertEqual(check_of([(2, 0)] * 9, kinds, logs + [(ordered, 1), (8, 0)]), REFUSED)

    def test_orders_of_another_kind_do_not_help(self):
        kinds = [(1, 0, 9, 1, 4), (1, 0, 9, 1, 1), (1, 0, 9, 1, 4)]
        self.assertEqual(check_of([(2, 0)] * 9, kinds, [(0, 1), (1, 1)]), REFUSED)
        self.assertEqual(check_of([(2, 0)] * 9, kinds, [(0, 0), (1, 1), (2, 2)]), [12, 1, 6])

    def test_none_ordered_and_worth_nothing(self):
        self.assertEqual(check_of([(2, 0)] * 2, [(1, 0, 9, 0, 0)], [(0, 0)]), REFUSED)

    def test_a_fault_in_the_first_or_the_last_of_several(self):
        self.refuse((0, 3), (2, 0), (4, 1), (5, 1))
        self.refuse((0, 0), (2, 0), (4, 1), (6, 1))
        self.refuse((0, 0), (2, 0), (4, 0), (5, 1))

    def test_the_longest_row_that_may_be_handed_in(self):
        self.refuse(*[(TOP, TOP)] * 60)
        self.refuse(*[(0, 0)] * 60)
        self.assertEqual(check_of([(9, 0)] * 40, [(1, 0, 9, 1, 4)], [(at, 0) for at in range(60)]), REFUSED)


class OtherCallsTest(unittest.TestCase):
    def test_check_follows_the_orders(self):
        logs = [(0, 0), (1, 0)]
        given = run(
            stem([(3, 0)] * 2), kind(1, 0, 9, 1, 1), check(logs), order(0, 2), check(logs), order(0, 0), check(logs))
        self.assertEqual(given, [[2], [0], REFUSED, [1], [18, 1, 0], [2], REFUSED])

    def test_check_follows_the_stem(self):
        logs = [(0, 0)]
        given = run(
            kind(2, 3, 4, 1, 1), check(logs), stem([(3, 4)] * 2), check(logs), stem([(3, 5)] * 2), check(logs),
            stem([(3, 3), (2, 3)]), check(logs), stem([(3, 3)] * 5), check(logs), stem([(3, 10)]), check(logs))
        self.assertEqual(given, [
            [0], REFUSED, [2], [18, 1, 0], [2], REFUSED, [2], REFUSED, [5], [18, 1, 3], [-1], [18, 1, 3]])

    def test_check_follows_the_kinds(self):
        given = run(
            stem([(3, 0)] * 2), check([(0, 0)]), kind(1, 0, 9, 1, 1), check([(0, 0)]), check([(0, 0), (1, 1)]),
            kind(1, 0, 9, 2, 1), check([(0, 0), (1, 1)]))
        self.assertEqual(given, [[2], REFUSED, [0], [9, 1, 1], REFUSED, [1], [27, 1, 0]])

    def test_check_takes_nothing_out_of_the_orders(self):
        logs = [(0, 0), (1, 0)]
        found = best_answer(18, 1, 0, logs)
        given = run(
            stem([(3, 0)] * 2), kind(1, 0, 9, 1, 2), check(logs), check(logs), best(),
            check(logs + [(1, 0)]), check([(0, 0), (0, 0)]), check(logs), best(), order(0, 1), order(0, 2))
        self.assertEqual(given, [
            [2], [0], [18, 1, 0], [18, 1, 0], found, REFUSED, REFUSED, [18, 1, 0], found, [2], [1]])

    def test_forty_calls_of_check(self):
        calls = set_up([(10, 0)] * 40, [(1, 0, 9, 1, 4)]) + [check([(0, 0), (2, 0)]), check([(0, 0), (0, 0)])] * 19
        self.assertEqual(run(*calls), [[40], [0]] + [[200, 1, 38], REFUSED] * 19)


class PlainSearchTest(unittest.TestCase):
    def test_every_list_of_up_to_three_logs(self):
        parts = [(3, 0), (3, 2), (2, 1), (1, 0)]
        kinds = [(1, 2, 1, 5, 1), (2, 0, 2, 3, 2)]
        every_log = list(itertools.product(range(5), range(3)))
        lists = [list(logs) for many in range(4) for logs in itertools.product(every_log, repeat=many)]
        self.check_against_search(parts, kinds, lists)

    def test_each_cutting_of_small_stems_and_what_is_near_it(self):
        numbers = Numbers(11)
        for turn in range(150):
            parts, kinds = small_case(numbers)
            cuttings = all_cuttings(parts, kinds)
            lists = []
            for at in range(30):
                logs = cuttings[numbers.below(len(cuttings))]
                lists += [logs, changed(logs, numbers)]
            self.check_against_search(parts, kinds, lists)

    def test_what_best_tells(self):
        numbers = Numbers(13)
        for turn in range(500):
            parts, kinds = small_case(numbers)
            found = run(*set_up(parts, kinds), best())[-1]
            logs = [(found[at + 1], found[at + 2]) for at in range(4, len(found), 3)]
            with self.subTest(parts=parts, kinds=kinds):
                self.assertEqual(check_of(parts, kinds, logs), [found[0], 1, found[3]])

    def test_what_best_tells_on_a_long_stem(self):
        parts = [(100 - 2 * at, at % 5) for at in range(40)]
        kinds = [(3, 30, 4, 7, 4), (5, 20, 3, 9, 3), (2, 0, 2, 11, 4)]
        found = run(*set_up(parts, kinds), best())[-1]
        logs = [(found[at + 1], found[at + 2]) for at in range(4, len(found), 3)]
        self.assertGreater(len(logs), 5)
        self.assertEqual(check_of(parts, kinds, logs), [found[0], 1, found[3]])

    def check_against_search(self, parts, kinds, lists):
        cuttings = [tuple(logs) for logs in all_cuttings(parts, kinds)]
        known = set(cuttings)
        for some in in_batches(lists):
            given = run(*set_up(parts, kinds), *[check(logs) for logs in some])[1 + len(kinds):]
            for logs, answer in zip(some, given, strict=True):
                wanted = REFUSED
                if tuple(logs) in known:
                    waste = len(parts) - sum(kinds[number][0] for place, number in logs)
                    wanted = [cutting_worth(parts, kinds, logs), 1, waste]
                with self.subTest(parts=parts, kinds=kinds, logs=logs):
                    self.assertEqual(answer, wanted)


def in_batches(lists):
    """The lists, so many at a time that they have room in 40 calls."""
    return [lists[at:at + 36] for at in range(0, len(lists), 36)]


def changed(logs, numbers):
    """The logs with one of them put in, left out, or with another place or kind."""
    at = numbers.below(len(logs) + 1)
    log = (numbers.below(10), numbers.below(4))
    return logs[:at] + [log] * numbers.below(2) + logs[at + numbers.below(2):]


if __name__ == "__main__":
    unittest.main()
