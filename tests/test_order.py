import unittest

from helper import TOP, best, best_answer, kind, order, run, stem

PARTS = [(10, 0)] * 5


class OrderTest(unittest.TestCase):
    def test_answers_how_many_were_ordered_before(self):
        given = run(kind(1, 0, 0, 1, 3), order(0, 0), order(0, 4), order(0, 4), order(0, 2), order(0, 1))
        self.assertEqual(given, [[0], [3], [0], [4], [4], [2]])

    def test_each_kind_has_its_own_orders(self):
        given = run(
            kind(1, 0, 0, 1, 1), kind(1, 0, 0, 1, 2), kind(1, 0, 0, 1, 3),
            order(2, 0), order(0, 4), order(1, 3), order(0, 0), order(1, 0), order(2, 0))
        self.assertEqual(given, [[0], [1], [2], [3], [1], [2], [4], [3], [0]])

    def test_n_are_ordered_now(self):
        for many in (0, 1, 2, 3, 4):
            given = run(stem(PARTS), kind(1, 0, 0, 1, 2), order(0, many), best())
            self.assertEqual(given[3][0], many * 100)
            self.assertEqual((len(given[3]) - 4) // 3, many)

    def test_refuses_n_above_4(self):
        for many in (5, 6, TOP):
            self.assertEqual(run(kind(1, 0, 0, 1, 3), order(0, many)), [[0], [-1]])

    def test_refuses_a_kind_that_is_not_there(self):
        self.assertEqual(run(order(0, 1)), [[-2]])
        kinds = []
        for many in (1, 2, 3):
            kinds.append(kind(1, 0, 0, 1, 3))
            for number in (many, many + 1, TOP):
                self.assertEqual(run(*kinds, order(number, 1))[-1], [-2])
            self.assertEqual(run(*kinds, order(many - 1, 1))[-1], [3])

    def test_of_both_faults_the_kind_is_told(self):
        self.assertEqual(run(order(0, 5)), [[-2]])
        self.assertEqual(run(kind(1, 0, 0, 1, 3), order(1, 5)), [[0], [-2]])

    def test_a_refused_order_leaves_all_as_it_was(self):
        for refused, answer in ((order(0, 5), [-1]), (order(1, 1), [-2]), (order(1, 5), [-2])):
            given = run(stem(PARTS), kind(5, 0, 0, 1, 1), refused, best(), order(0, 0))
            self.assertEqual(given, [[5], [0], answer, best_answer(500, 1, 0, [(0, 0)]), [1]])

    def test_orders_are_counted_anew_at_each_best(self):
        given = run(stem(PARTS), kind(5, 0, 0, 1, 1), best(), best(), order(0, 0), best(), order(0, 1), best())
        found = best_answer(500, 1, 0, [(0, 0)])
        none = best_answer(0, 1, 5, [])
        self.assertEqual(given, [[5], [0], found, found, [1], none, [0], found])


if __name__ == "__main__":
    unittest.main()
