import unittest

from helper import TOP, best, best_answer, kind, order, run, stem


class StemTest(unittest.TestCase):
    def answer(self, parts):
        return run(stem(parts))[0]

    def test_answers_how_many_parts(self):
        for many in (0, 1, 2, 39, 40):
            self.assertEqual(self.answer([(5, 0)] * many), [many])

    def test_refuses_more_than_40_parts(self):
        for many in (41, 42, 60):
            self.assertEqual(self.answer([(5, 0)] * many), [-1])

    def test_thickness_is_1_to_100(self):
        for thickness in (1, 2, 99, 100):
            self.assertEqual(self.answer([(thickness, 0)]), [1])
        for thickness in (0, 101, TOP):
            self.assertEqual(self.answer([(thickness, 0)]), [-1])

    def test_thickness_is_looked_at_in_every_part(self):
        self.assertEqual(self.answer([(100, 0), (1, 0), (1, 0)]), [3])
        self.assertEqual(self.answer([(100, 0), (1, 0), (0, 0)]), [-1])
        self.assertEqual(self.answer([(0, 0), (0, 0)]), [-1])
        self.assertEqual(self.answer([(101, 0), (100, 0)]), [-1])

    def test_grade_is_0_to_9(self):
        for grade in (0, 1, 8, 9):
            self.assertEqual(self.answer([(5, grade)]), [1])
        for grade in (10, TOP):
            self.assertEqual(self.answer([(5, grade)]), [-1])

    def test_grade_is_looked_at_in_every_part(self):
        self.assertEqual(self.answer([(5, 0), (5, 9), (5, 3)]), [3])
        self.assertEqual(self.answer([(5, 0), (5, 10), (5, 3)]), [-1])
        self.assertEqual(self.answer([(5, 0), (5, 9), (5, 10)]), [-1])

    def test_no_part_is_thicker_than_the_one_below_it(self):
        self.assertEqual(self.answer([(7, 0), (7, 0), (6, 0)]), [3])
        self.assertEqual(self.answer([(7, 0), (8, 0)]), [-1])
        self.assertEqual(self.answer([(9, 0), (7, 0), (8, 0)]), [-1])
        self.assertEqual(self.answer([(9, 0)] * 39 + [(10, 0)]), [-1])

    def test_grades_may_rise_and_fall(self):
        self.assertEqual(self.answer([(7, 9), (7, 0), (7, 5)]), [3])

    def test_a_refused_stem_leaves_the_earlier_one(self):
        refused = (
            [(5, 0)] * 41,
            [(0, 0)],
            [(101, 0)],
            [(4, 10)],
            [(4, 0), (5, 0)],
            [(4, 0), (4, 0), (4, 0), (4, 0), (4, 0), (4, 10)],
        )
        for parts in refused:
            given = run(stem([(3, 0), (2, 0)]), kind(1, 0, 9, 10, 4), stem(parts), best())
            self.assertEqual(given, [[2], [0], [-1], best_answer(130, 1, 0, [(0, 0), (1, 0)])])

    def test_a_refused_stem_leaves_a_new_object_without_parts(self):
        given = run(kind(1, 0, 9, 10, 4), stem([(5, 10)]), best())
        self.assertEqual(given, [[0], [-1], best_answer(0, 1, 0, [])])

    def test_a_new_stem_takes_the_place_and_kinds_and_orders_stay(self):
        given = run(
            stem([(3, 0), (2, 0)]), kind(1, 0, 9, 10, 1), kind(2, 0, 9, 1, 0), order(1, 1), best(),
            stem([(6, 9), (6, 9), (6, 9)]), best(), stem([]), best())
        self.assertEqual(given, [
            [2], [0], [1], [0], best_answer(90, 1, 1, [(0, 0)]),
            [3], best_answer(360 + 72, 2, 0, [(0, 0), (1, 1)]), [0], best_answer(0, 1, 0, [])])


if __name__ == "__main__":
    unittest.main()
