import math
import unittest

from helper import (
    LONG_KINDS, LONG_PARTS, Numbers, all_cuttings, best, best_answer, kind, run, run_in_good_time, searched_best,
    set_up, small_case)


def best_of(parts, *kinds):
    return run(*set_up(parts, kinds), best())[-1]


class BestWithoutLogsTest(unittest.TestCase):
    def test_on_a_new_object(self):
        self.assertEqual(run(best()), [best_answer(0, 1, 0, [])])

    def test_without_a_stem(self):
        self.assertEqual(run(kind(1, 0, 9, 5, 4), best())[-1], best_answer(0, 1, 0, []))

    def test_without_kinds_all_is_waste(self):
        self.assertEqual(best_of([(9, 0)] * 7), best_answer(0, 1, 7, []))

    def test_with_none_ordered_all_is_waste(self):
        self.assertEqual(best_of([(9, 0)] * 7, (1, 0, 9, 5, 0), (2, 0, 9, 0, 0)), best_answer(0, 1, 7, []))


class BestLogsTest(unittest.TestCase):
    def test_a_log_must_have_all_its_parts(self):
        self.assertEqual(best_of([(9, 0)] * 3, (4, 0, 9, 5, 1)), best_answer(0, 1, 3, []))
        self.assertEqual(best_of([(9, 0)] * 4, (4, 0, 9, 5, 1)), best_answer(5 * 4 * 81, 1, 0, [(0, 0)]))
        self.assertEqual(best_of([(9, 0)] * 39, (40, 0, 9, 5, 1)), best_answer(0, 1, 39, []))
        self.assertEqual(best_of([(9, 0)] * 40, (40, 0, 9, 5, 1)), best_answer(5 * 40 * 81, 1, 0, [(0, 0)]))

    def test_the_uppermost_part_must_be_as_thick(self):
        parts = [(9, 0), (8, 0), (7, 0)]
        self.assertEqual(best_of(parts, (2, 8, 9, 1, 1)), best_answer(128, 1, 1, [(0, 0)]))
        self.assertEqual(best_of(parts, (2, 9, 9, 1, 1)), best_answer(0, 1, 3, []))
        self.assertEqual(best_of([(100, 0)], (1, 100, 9, 1, 1)), best_answer(10000, 1, 0, [(0, 0)]))
        self.assertEqual(best_of([(99, 0)], (1, 100, 9, 1, 1)), best_answer(0, 1, 1, []))

    def test_no_part_may_be_of_a_worse_grade(self):
        for at in range(3):
            parts = [(9, 0)] * 3
            parts[at] = (9, 5)
            self.assertEqual(best_of(parts, (3, 0, 5, 1, 1)), best_answer(243, 1, 0, [(0, 0)]))
            self.assertEqual(best_of(parts, (3, 0, 4, 1, 1)), best_answer(0, 1, 3, []))

    def test_parts_below_and_above_a_log_do_not_count_for_it(self):
        parts = [(9, 9), (9, 0), (9, 0), (9, 9)]
        self.assertEqual(best_of(parts, (2, 0, 0, 1, 1)), best_answer(162, 1, 2, [(1, 0)]))

    def test_worth_is_price_by_length_by_the_square_of_the_upper_thickness(self):
        self.assertEqual(best_of([(9, 0), (5, 0), (3, 0)], (3, 0, 9, 7, 1)), best_answer(7 * 3 * 9, 1, 0, [(0, 0)]))
        self.assertEqual(
            best_of([(100, 0)] * 40, (40, 100, 0, 1000, 4)), best_answer(400000000, 1, 0, [(0, 0)]))

    def test_logs_may_touch_but_not_overlap(self):
        self.assertEqual(best_of([(2, 0)] * 4, (2, 0, 9, 1, 4)), best_answer(16, 1, 0, [(0, 0), (2, 0)]))
        self.assertEqual(best_of([(2, 0)] * 3, (2, 0, 9, 1, 4)), best_answer(8, 2, 1, [(0, 0)]))

    def test_the_dearest_log_is_not_always_in_the_best_cutting(self):
        # One long log is worth 5 * 3 = 15, three short ones are worth 3 * 6 = 18.
        self.assertEqual(
            best_of([(1, 0)] * 3, (3, 0, 9, 5, 1), (1, 0, 9, 6, 3)),
            best_answer(18, 1, 0, [(0, 1), (1, 1), (2, 1)]))

    def test_kinds_run_out_of_orders(self):
        self.assertEqual(
            best_of([(1, 0)] * 6, (1, 0, 9, 9, 2), (1, 0, 9, 5, 1), (1, 0, 9, 1, 4)),
            best_answer(26, math.comb(6, 2) * 4, 0, [(0, 0), (1, 0), (2, 1), (3, 2), (4, 2), (5, 2)]))
        self.assertEqual(
            best_of([(1, 0)] * 6, (1, 0, 9, 9, 4)),
            best_answer(36, 15, 2, [(0, 0), (1, 0), (2, 0), (3, 0)]))

    def test_orders_are_kept_for_where_they_are_worth_more(self):
        # The lowest part is fit for either kind, the upper one for kind 0 alone.
        self.assertEqual(
            best_of([(5, 0), (4, 0)], (1, 0, 9, 2, 1), (1, 5, 9, 2, 1)),
            best_answer(82, 1, 0, [(0, 1), (1, 0)]))


class EarliestTest(unittest.TestCase):
    def test_place_decides(self):
        self.assertEqual(best_of([(4, 0)] * 5, (2, 0, 9, 3, 1)), best_answer(96, 4, 3, [(0, 0)]))

    def test_place_decides_ahead_of_kind(self):
        # Kind 1 may be cut from place 0 on, kind 0 from place 1 on: each is worth as much.
        self.assertEqual(
            best_of([(3, 9), (3, 0), (3, 0)], (2, 0, 0, 1, 1), (2, 0, 9, 1, 0), (2, 0, 9, 1, 1)),
            best_answer(18, 3, 1, [(0, 2)]))

    def test_kind_decides_at_one_place(self):
        self.assertEqual(
            best_of([(3, 0)] * 2, (2, 0, 9, 1, 1), (2, 0, 9, 1, 1), (2, 0, 9, 1, 1)),
            best_answer(18, 3, 0, [(0, 0)]))
        self.assertEqual(
            best_of([(3, 0)] * 2, (2, 4, 9, 1, 1), (2, 0, 9, 1, 1), (2, 0, 9, 1, 1)),
            best_answer(18, 2, 0, [(0, 1)]))

    def test_the_lower_kind_is_earlier_even_if_it_is_longer(self):
        # Two parts at once for 2, or one for 2 and the other one left.
        self.assertEqual(
            best_of([(1, 0)] * 2, (2, 0, 9, 1, 1), (1, 0, 9, 2, 1)), best_answer(2, 3, 0, [(0, 0)]))
        self.assertEqual(
            best_of([(1, 0)] * 2, (1, 0, 9, 2, 1), (2, 0, 9, 1, 1)), best_answer(2, 3, 1, [(0, 0)]))

    def test_a_later_log_decides(self):
        # One log of each kind in either order, or with the waste in another place.
        self.assertEqual(
            best_of([(1, 0)] * 3, (1, 0, 9, 5, 1), (1, 0, 9, 5, 1)), best_answer(10, 6, 1, [(0, 0), (1, 1)]))

    def test_a_log_is_earlier_than_none_any_more(self):
        self.assertEqual(
            best_of([(2, 0), (1, 9)], (1, 0, 0, 7, 1), (1, 0, 9, 0, 1)),
            best_answer(28, 2, 0, [(0, 0), (1, 1)]))

    def test_logs_worth_nothing_count(self):
        self.assertEqual(best_of([(1, 0)], (1, 0, 9, 0, 1)), best_answer(0, 2, 0, [(0, 0)]))
        # None, or one at one of 3 places, or two at 2 of them.
        self.assertEqual(best_of([(1, 0)] * 3, (1, 0, 9, 0, 2)), best_answer(0, 7, 1, [(0, 0), (1, 0)]))
        # A log worth nothing below the one that is worth something is earlier than none there.
        self.assertEqual(
            best_of([(2, 9), (2, 0)], (1, 0, 0, 3, 1), (1, 0, 9, 0, 1)),
            best_answer(12, 2, 0, [(0, 1), (1, 0)]))

    def test_waste_is_of_the_earliest(self):
        # Worth the same, with waste of 0 by the earliest and of 1 by the other ones.
        self.assertEqual(
            best_of([(2, 0), (2, 0), (2, 0)], (3, 0, 9, 2, 1), (2, 0, 9, 3, 1)),
            best_answer(24, 3, 0, [(0, 0)]))
        self.assertEqual(
            best_of([(2, 0), (2, 0), (2, 0)], (2, 0, 9, 3, 1), (3, 0, 9, 2, 1)),
            best_answer(24, 3, 1, [(0, 0)]))

    def test_waste_is_below_between_and_above_the_logs(self):
        parts = [(5, 9), (5, 0), (5, 9), (5, 9), (5, 0), (5, 9)]
        self.assertEqual(best_of(parts, (1, 0, 0, 1, 4)), best_answer(50, 1, 4, [(1, 0), (4, 0)]))


class LongStemTest(unittest.TestCase):
    def test_three_kinds_of_four_in_good_time(self):
        run_in_good_time(*set_up(LONG_PARTS, LONG_KINDS), *[best()] * 36)

    def test_each_way_of_setting_out_twelve_logs(self):
        ways = math.comb(40, 12) * math.factorial(12) // math.factorial(4) ** 3
        logs = [(place, place // 4) for place in range(12)]
        self.assertEqual(best_of([(10, 0)] * 40, *[(1, 0, 9, 1, 4)] * 3), best_answer(1200, ways, 28, logs))

    def test_each_way_of_setting_out_up_to_twelve_logs_worth_nothing(self):
        ways = 0
        for first in range(5):
            for second in range(5):
                for third in range(5):
                    many = first + second + third
                    kinds_set_out = math.comb(many, first) * math.comb(many - first, second)
                    ways += math.comb(40, many) * kinds_set_out
        logs = [(place, place // 4) for place in range(12)]
        self.assertEqual(best_of([(10, 0)] * 40, *[(1, 0, 9, 0, 4)] * 3), best_answer(0, ways, 28, logs))

    def test_long_logs_on_a_long_stem(self):
        self.assertEqual(
            best_of([(10, 0)] * 40, (13, 0, 9, 1, 4)),
            best_answer(3900, 4, 1, [(0, 0), (13, 0), (26, 0)]))


class PlainSearchTest(unittest.TestCase):
    def test_small_stems_against_all_cuttings(self):
        numbers = Numbers(7)
        several = 0
        for turn in range(2500):
            parts, kinds = small_case(numbers)
            with self.subTest(parts=parts, kinds=kinds):
                wanted = searched_best(parts, kinds)
                self.assertEqual(best_of(parts, *kinds), wanted)
            several += wanted[2] > 1
        self.assertGreater(several, 500)

    def test_the_plain_search_itself(self):
        cuttings = all_cuttings([(1, 0)] * 3, [(2, 0, 9, 1, 1), (1, 0, 9, 1, 1)])
        self.assertEqual(
            sorted(cuttings),
            [[], [(0, 0)], [(0, 0), (2, 1)], [(0, 1)], [(0, 1), (1, 0)], [(1, 0)], [(1, 1)], [(2, 1)]])


if __name__ == "__main__":
    unittest.main()
