import unittest

from helper import TOP, best, best_answer, kind, order, run, stem

ORDINARY = (5, 20, 3, 100, 2)
# Of each number of a kind: its least and its most.
EDGES = ((1, 40), (0, 100), (0, 9), (0, 1000), (0, 4))


def with_number(at, number):
    numbers = list(ORDINARY)
    numbers[at] = number
    return kind(*numbers)


class KindTest(unittest.TestCase):
    def test_takes_each_number_at_its_edges(self):
        for at, (least, most) in enumerate(EDGES):
            for number in (least, least + 1, most - 1, most):
                with self.subTest(at=at, number=number):
                    self.assertEqual(run(with_number(at, number)), [[0]])

    def test_refuses_each_number_outside_its_edges(self):
        for at, (least, most) in enumerate(EDGES):
            # No number below 0 is handed in, so a length alone can be too low.
            outside = [most + 1, TOP] + ([least - 1] if least else [])
            for number in outside:
                with self.subTest(at=at, number=number):
                    self.assertEqual(run(with_number(at, number)), [[-1]])

    def test_all_at_their_edges_together(self):
        self.assertEqual(run(kind(1, 0, 0, 0, 0), kind(40, 100, 9, 1000, 4)), [[0], [1]])

    def test_answers_its_number_and_refuses_a_fourth(self):
        given = run(*[kind(*ORDINARY)] * 5)
        self.assertEqual(given, [[0], [1], [2], [-5], [-5]])

    def test_a_fourth_that_is_not_as_told_is_refused_as_such(self):
        for at, (least, most) in enumerate(EDGES):
            given = run(*[kind(*ORDINARY)] * 3, with_number(at, most + 1), kind(*ORDINARY))
            self.assertEqual(given, [[0], [1], [2], [-1], [-5]])

    def test_a_refused_kind_takes_no_number(self):
        given = run(kind(0, 0, 0, 0, 0), kind(*ORDINARY), kind(1, 0, 0, 0, 5), kind(*ORDINARY))
        self.assertEqual(given, [[-1], [0], [-1], [1]])

    def test_a_kind_behind_a_refused_one_has_its_own_orders(self):
        given = run(
            stem([(2, 0)]), kind(1, 0, 0, 1001, 4), kind(1, 0, 0, 3, 1), kind(41, 0, 0, 5, 3), kind(1, 0, 0, 5, 2),
            best(), order(0, 0), order(1, 0))
        self.assertEqual(given, [
            [1], [-1], [0], [-1], [1], best_answer(20, 1, 0, [(0, 1)]), [1], [2]])

    def test_a_kind_refused_as_not_as_told_leaves_all_as_it_was(self):
        given = run(stem([(2, 0)]), kind(1, 0, 0, 3, 1), kind(1, 0, 0, 1001, 1), order(1, 1), best())
        self.assertEqual(given, [[1], [0], [-1], [-2], best_answer(12, 1, 0, [(0, 0)])])

    def test_a_refused_fourth_leaves_all_as_it_was(self):
        given = run(
            stem([(2, 0)]), kind(1, 0, 0, 3, 1), kind(1, 0, 0, 1, 1), kind(1, 0, 0, 2, 4),
            kind(1, 0, 0, 1000, 1), best(), order(3, 1), order(2, 0))
        self.assertEqual(given, [
            [1], [0], [1], [2], [-5], best_answer(12, 1, 0, [(0, 0)]), [-2], [4]])

    def test_each_number_is_kept_where_it_belongs(self):
        # Parts 2 and 3 alone are good enough, and part 3 is as thick as asked.
        parts = [(9, 4), (9, 4), (8, 3), (7, 3), (6, 3)]
        given = run(stem(parts), kind(2, 7, 3, 11, 1), best(), order(0, 0))
        self.assertEqual(given, [[5], [0], best_answer(11 * 2 * 49, 1, 3, [(2, 0)]), [1]])


if __name__ == "__main__":
    unittest.main()
