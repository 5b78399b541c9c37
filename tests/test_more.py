import unittest

from helper import (
    LONG_KINDS, LONG_PARTS, TOP, Numbers, best, best_answer, check, kind, more, order, places, places_answer, run,
    run_in_good_time, searched_more, set_up, small_case, stem)

NO_SUCH_KIND = [-2]


def more_of(parts, kinds, number):
    return run(*set_up(parts, kinds), more(number))[-1]


class MoreTest(unittest.TestCase):
    def test_a_kind_of_which_none_are_ordered(self):
        self.assertEqual(more_of([(5, 0)] * 3, [(2, 0, 9, 7, 0)], 0), [7 * 2 * 25])

    def test_each_number_of_orders(self):
        # Part by part the stem is worth 100, 64, 36, 16, 4: the next log is cut from the next part.
        parts = [(10, 0), (8, 0), (6, 0), (4, 0), (2, 0)]
        for ordered, worth in enumerate((100, 64, 36, 16, 4)):
            self.assertEqual(more_of(parts, [(1, 0, 9, 1, ordered)], 0), [worth])

    def test_a_fifth_where_4_are_ordered(self):
        self.assertEqual(more_of([(3, 0)] * 5, [(1, 0, 9, 2, 4)], 0), [18])
        self.assertEqual(more_of([(3, 0)] * 4, [(1, 0, 9, 2, 4)], 0), [0])
        self.assertEqual(more_of([(3, 0)] * 40, [(8, 0, 9, 2, 4)], 0), [144])
        self.assertEqual(more_of([(3, 0)] * 39, [(8, 0, 9, 2, 4)], 0), [0])

    def test_a_fifth_of_each_of_three_kinds(self):
        kinds = [(1, 0, 9, 2, 4), (2, 0, 9, 3, 4), (1, 0, 9, 5, 4)]
        for number, worth in enumerate((200, 600, 500)):
            self.assertEqual(more_of([(10, 0)] * 40, kinds, number), [worth])

    def test_each_kind_has_its_own_worth(self):
        kinds = [(1, 0, 9, 2, 1), (1, 0, 9, 5, 0), (1, 0, 9, 9, 1)]
        # A stem of two parts is full: what comes takes the place of what is worth least.
        for number, worth in enumerate((0, 3, 7)):
            self.assertEqual(more_of([(1, 0)] * 2, kinds, number), [worth])
        for number, worth in enumerate((2, 5, 9)):
            self.assertEqual(more_of([(1, 0)] * 3, kinds, number), [worth])

    def test_other_logs_make_room(self):
        # The long log is worth 40 and takes the place of two that are worth 14 together.
        self.assertEqual(more_of([(1, 0)] * 4, [(1, 0, 9, 7, 2), (4, 0, 9, 10, 0)], 1), [26])
        # It is worth 12 and would take the place of two that are worth 14 together.
        self.assertEqual(more_of([(1, 0)] * 4, [(1, 0, 9, 7, 2), (4, 0, 9, 3, 0)], 1), [0])

    def test_the_highest_worth(self):
        self.assertEqual(more_of([(100, 0)] * 40, [(40, 100, 0, 1000, 0)], 0), [400000000])


class WorthNothingTest(unittest.TestCase):
    def test_on_a_stem_without_parts(self):
        self.assertEqual(more_of([], [(1, 0, 9, 7, 0)], 0), [0])
        self.assertEqual(run(kind(1, 0, 9, 7, 4), more(0)), [[0], [0]])

    def test_a_kind_that_fits_nowhere(self):
        for numbers in ((3, 0, 9, 7, 0), (1, 9, 9, 7, 0), (1, 0, 4, 7, 0)):
            self.assertEqual(more_of([(8, 5)] * 2, [numbers], 0), [0])

    def test_where_there_is_no_room_for_another(self):
        self.assertEqual(more_of([(8, 0)] * 2, [(1, 0, 9, 7, 2)], 0), [0])
        self.assertEqual(more_of([(8, 0)] * 5, [(2, 0, 9, 7, 2)], 0), [0])

    def test_a_price_of_nothing(self):
        self.assertEqual(more_of([(8, 0)] * 5, [(1, 0, 9, 0, 1)], 0), [0])

    def test_where_it_only_makes_for_more_cuttings_worth_as_much(self):
        self.assertEqual(more_of([(8, 0)], [(1, 0, 9, 7, 1), (1, 0, 9, 7, 0)], 1), [0])


class RefusalTest(unittest.TestCase):
    def test_a_kind_that_there_is_not(self):
        kinds = [(1, 0, 9, 7, 1)] * 3
        for many in range(4):
            for number in (many, many + 1, TOP):
                self.assertEqual(more_of([(2, 0)] * 5, kinds[:many], number), NO_SUCH_KIND)
            for number in range(many):
                self.assertEqual(more_of([(2, 0)] * 5, kinds[:many], number), [28])

    def test_on_a_new_object(self):
        self.assertEqual(run(more(0), more(TOP)), [NO_SUCH_KIND, NO_SUCH_KIND])

    def test_on_a_stem_of_40_parts_without_kinds(self):
        self.assertEqual(run(stem([(2, 0)] * 40), more(0)), [[40], NO_SUCH_KIND])

    def test_a_kind_that_was_refused_is_not_there(self):
        self.assertEqual(run(kind(1, 0, 9, 1001, 1), more(0)), [[-1], NO_SUCH_KIND])


class OtherCallsTest(unittest.TestCase):
    PARTS = [(9, 0), (8, 1), (7, 0), (6, 2), (5, 0), (5, 0)]
    KINDS = [(1, 0, 9, 3, 4), (2, 0, 1, 4, 0), (1, 6, 0, 9, 1)]

    def test_what_is_ordered_stays_as_it_was(self):
        for ordered in range(5):
            given = run(stem([(2, 0)] * 9), kind(1, 0, 9, 1, ordered), more(0), more(0), order(0, 5), order(0, 0))
            self.assertEqual(given, [[9], [0], [4], [4], [-1], [ordered]])

    def test_all_answer_behind_it_as_if_it_had_not_been_called(self):
        asked = [
            best(), more(0), more(1), more(2), places(), check([(0, 0), (1, 0), (2, 0), (3, 0), (4, 0)]),
            order(0, 0), order(1, 0), order(2, 0), kind(1, 1, 1, 1, 1)]
        without = run(*set_up(self.PARTS, self.KINDS), *asked)
        for number in (0, 1, 2, 3, TOP):
            given = run(*set_up(self.PARTS, self.KINDS), more(number), *asked)
            self.assertEqual(given[:4] + given[5:], without)
        self.assertEqual(without[9:], [[-6], [4], [0], [1], [-5]])

    def test_best_does_not_count_the_one_more(self):
        found = best_answer(400, 5, 1, [(0, 0), (1, 0), (2, 0), (3, 0)])
        given = run(stem([(10, 0)] * 5), kind(1, 0, 9, 1, 4), best(), more(0), best())
        self.assertEqual(given, [[5], [0], found, [100], found])

    def test_places_do_not_hang_on_orders(self):
        given = run(stem([(2, 0)] * 2), kind(1, 0, 9, 1, 0), places(), more(0), places())
        self.assertEqual(given, [[2], [0], places_answer(2, [0, 1]), [4], places_answer(2, [0, 1])])

    def test_more_is_what_best_gains_by_the_order(self):
        for ordered in range(4):
            kinds = [(1, 0, 9, 3, 2), (2, 0, 1, 4, ordered), (1, 6, 0, 9, 1)]
            given = run(*set_up(self.PARTS, kinds), best(), more(1), order(1, ordered + 1), best())
            self.assertEqual(given[5], [given[7][0] - given[4][0]])

    def test_more_follows_stem_and_orders(self):
        given = run(
            kind(1, 0, 9, 1, 0), more(0), stem([(3, 0), (2, 0)]), more(0), order(0, 1), more(0), order(0, 2), more(0),
            stem([(7, 0)] * 3), more(0), stem([(7, 10)]), more(0))
        self.assertEqual(given, [
            [0], [0], [2], [9], [0], [4], [1], [0], [3], [49], [-1], [49]])


class PlainSearchTest(unittest.TestCase):
    def test_small_stems_against_all_cuttings(self):
        numbers = Numbers(17)
        gains = 0
        for turn in range(700):
            parts, kinds = small_case(numbers)
            for number in range(len(kinds)):
                gains += self.compare(parts, kinds, number) > 0
        self.assertGreater(gains, 100)

    def test_a_fifth_log_against_all_cuttings(self):
        numbers = Numbers(23)
        gains = 0
        for turn in range(60):
            thickness = 4
            parts = []
            for place in range(4 + numbers.below(4)):
                parts.append((thickness, numbers.below(2)))
                thickness = max(1, thickness - numbers.below(5) // 4)
            other = (1 + numbers.below(2), 0, 1, numbers.below(5), numbers.below(5))
            kinds = [(1, 0, 1, 1 + numbers.below(5), 4), other]
            gains += self.compare(parts, kinds, 0) > 0
        self.assertGreater(gains, 20)

    def compare(self, parts, kinds, number):
        wanted = searched_more(parts, kinds, number)
        with self.subTest(parts=parts, kinds=kinds, number=number):
            self.assertEqual(more_of(parts, kinds, number), wanted)
        return wanted[0]


class LongStemTest(unittest.TestCase):
    def test_three_kinds_of_four_in_good_time(self):
        run_in_good_time(*set_up(LONG_PARTS, LONG_KINDS), *[more(0), more(1), more(2)] * 12)

    def test_forty_calls_of_more(self):
        self.assertEqual(run(*[more(0)] * 40), [NO_SUCH_KIND] * 40)


if __name__ == "__main__":
    unittest.main()
