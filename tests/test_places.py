import unittest

from helper import Numbers, best, is_log, kind, order, places, places_answer, run, set_up, small_case, stem


def places_of(parts, kinds):
    return run(*set_up(parts, kinds), places())[-1]


class PlacesTest(unittest.TestCase):
    def test_on_a_new_object(self):
        self.assertEqual(run(places()), [[0]])

    def test_without_kinds(self):
        for many in (0, 1, 40):
            self.assertEqual(places_of([(9, 0)] * many, []), [many])

    def test_a_stem_without_parts(self):
        self.assertEqual(places_of([], [(1, 0, 9, 1, 1)]), [0, 0])
        self.assertEqual(places_of([], [(1, 0, 9, 1, 1)] * 3), [0, 0, 0, 0])

    def test_a_stem_of_one_part(self):
        self.assertEqual(places_of([(9, 4)], [(1, 9, 4, 1, 1)]), [1, 1, 0])
        self.assertEqual(places_of([(9, 4)], [(1, 10, 4, 1, 1), (1, 0, 9, 1, 1), (2, 0, 9, 1, 1)]), [1, 0, 1, 0, 0])

    def test_a_kind_that_fits_everywhere(self):
        self.assertEqual(places_of([(1, 9)] * 40, [(1, 0, 9, 1, 1)]), places_answer(40, range(40)))

    def test_a_kind_that_fits_nowhere(self):
        for numbers in ((5, 0, 9, 1, 4), (1, 9, 9, 1, 4), (1, 0, 2, 1, 4)):
            self.assertEqual(places_of([(8, 3)] * 4, [numbers]), places_answer(4, []))

    def test_a_log_must_have_all_its_parts(self):
        for length in (1, 2, 3, 39, 40):
            self.assertEqual(
                places_of([(8, 3)] * 40, [(length, 0, 9, 1, 4)]), places_answer(40, range(41 - length)))
        self.assertEqual(places_of([(8, 3)] * 39, [(40, 0, 9, 1, 4)]), places_answer(39, []))

    def test_the_uppermost_part_must_be_as_thick(self):
        parts = [(9, 0), (8, 0), (8, 0), (6, 0), (5, 0)]
        self.assertEqual(
            places_of(parts, [(1, 8, 9, 1, 1), (2, 8, 9, 1, 1), (3, 6, 9, 1, 1)]),
            places_answer(5, [0, 1, 2], [0, 1], [0, 1]))

    def test_no_part_may_be_of_a_worse_grade(self):
        parts = [(9, 2), (9, 5), (9, 2), (9, 3), (9, 2), (9, 9), (9, 0)]
        self.assertEqual(
            places_of(parts, [(1, 0, 2, 1, 1), (2, 0, 3, 1, 1), (3, 0, 5, 1, 1)]),
            places_answer(7, [0, 2, 4, 6], [2, 3], [0, 1, 2]))

    def test_kinds_that_fit_everywhere_somewhere_and_nowhere(self):
        parts = [(9, 0), (8, 1), (7, 0)]
        everywhere = (1, 7, 1, 1, 1)
        somewhere = (1, 0, 0, 1, 1)
        nowhere = (2, 0, 0, 1, 1)
        self.assertEqual(
            places_of(parts, [everywhere, somewhere, nowhere]), [3, 3, 0, 1, 2, 2, 0, 2, 0])
        self.assertEqual(
            places_of(parts, [nowhere, everywhere, somewhere]), [3, 0, 3, 0, 1, 2, 2, 0, 2])

    def test_three_kinds_on_a_long_stem(self):
        parts = [(100 - at, at % 2) for at in range(40)]
        self.assertEqual(
            places_of(parts, [(1, 0, 0, 1, 1), (10, 81, 1, 1, 1), (2, 0, 0, 1, 1)]),
            places_answer(40, range(0, 40, 2), range(11), []))

    def test_orders_and_prices_do_not_matter(self):
        self.assertEqual(
            places_of([(9, 0)] * 3, [(2, 0, 9, 0, 0), (2, 0, 9, 1000, 4)]), places_answer(3, [0, 1], [0, 1]))

    def test_places_of_logs_that_overlap_are_told(self):
        self.assertEqual(places_of([(9, 0)] * 4, [(3, 0, 9, 1, 1)]), places_answer(4, [0, 1]))


class OtherCallsTest(unittest.TestCase):
    def test_places_follow_stem_and_kinds(self):
        given = run(
            places(), stem([(3, 0), (2, 0)]), places(), kind(1, 3, 9, 1, 0), places(), kind(1, 0, 9, 1, 0), places(),
            kind(1, 0, 10, 1, 0), places(), stem([(3, 10)]), places(), stem([]), places())
        self.assertEqual(given, [
            [0], [2], [2], [0], places_answer(2, [0]), [1], places_answer(2, [0], [0, 1]),
            [-1], places_answer(2, [0], [0, 1]), [-1], places_answer(2, [0], [0, 1]), [0], places_answer(0, [], [])])

    def test_places_leave_all_as_it_was(self):
        asked = [best(), order(0, 0), order(1, 0), best()]
        begin = set_up([(3, 0), (2, 0)], [(1, 0, 9, 1, 1), (1, 0, 9, 1, 3)])
        given = run(*begin, places(), *asked)
        self.assertEqual(given[:3] + given[4:], run(*begin, *asked))

    def test_forty_calls_of_places(self):
        begin = set_up([(3, 0)] * 40, [(1, 0, 9, 1, 1)] * 3)
        found = places_answer(40, range(40), range(40), range(40))
        self.assertEqual(run(*begin, *[places()] * 36)[4:], [found] * 36)


class PlainSearchTest(unittest.TestCase):
    def test_small_stems(self):
        numbers = Numbers(19)
        for turn in range(500):
            parts, kinds = small_case(numbers)
            lists = []
            for number in range(len(kinds)):
                lists.append([place for place in range(len(parts)) if is_log(parts, kinds, place, number)])
            with self.subTest(parts=parts, kinds=kinds):
                self.assertEqual(places_of(parts, kinds), places_answer(len(parts), *lists))


if __name__ == "__main__":
    unittest.main()
