"""Points 1 and 2: a line's beginning, and the call variables."""

import unittest

from lines import GREATEST_INT, LEAST_INT, add, ask, count, drop, fault, forced, solve, variables


class Beginning(unittest.TestCase):
    def test_there_is_no_variable(self):
        self.assertEqual(ask(add(1), add(-1), solve(1), fault(1)), [[-1], [-1], [-1], [-1]])

    def test_there_is_no_clause(self):
        self.assertEqual(ask(drop()), [[-1]])

    def test_any_call_may_be_first(self):
        self.assertEqual(ask(variables(1)), [[0]])
        self.assertEqual(ask(add()), [[0]])
        self.assertEqual(ask(drop()), [[-1]])
        self.assertEqual(ask(solve()), [[1, 0]])
        self.assertEqual(ask(fault()), [[1]])
        self.assertEqual(ask(count(5)), [[1]])
        self.assertEqual(ask(forced()), [[0, 0, 0]])


class Variables(unittest.TestCase):
    def test_taken(self):
        for n in (1, 2, 10, 63, 64):
            with self.subTest(n=n):
                self.assertEqual(ask(variables(n)), [[0]])

    def test_refused(self):
        for n in (LEAST_INT, -64, -1, 0, 65, 128, GREATEST_INT):
            with self.subTest(n=n):
                self.assertEqual(ask(variables(n)), [[-1]])

    def test_there_are_variables_1_to_n(self):
        for n in (1, 2, 10, 63, 64):
            with self.subTest(n=n):
                line = [variables(n), add(1), add(-1), add(n), add(-n), add(n + 1), add(-n - 1)]
                self.assertEqual(ask(*line), [[0], [0], [1], [2], [3], [-1], [-1]])

    def test_told_again_with_no_clause(self):
        self.assertEqual(ask(variables(3), variables(5), add(5)), [[0], [0], [0]])
        self.assertEqual(ask(variables(5), variables(3), add(4), add(3)), [[0], [0], [-1], [0]])
        self.assertEqual(ask(variables(5), variables(5), add(5)), [[0], [0], [0]])

    def test_told_again_with_a_clause(self):
        self.assertEqual(ask(variables(3), add(1), variables(5), add(5)), [[0], [0], [-1], [-1]])
        self.assertEqual(ask(variables(3), add(1), variables(3)), [[0], [0], [-1]])
        self.assertEqual(ask(variables(3), add(1), variables(1), add(3)), [[0], [0], [-1], [1]])

    def test_a_clause_without_parts_is_a_clause(self):
        self.assertEqual(ask(add(), variables(3)), [[0], [-1]])

    def test_a_refused_clause_is_none(self):
        self.assertEqual(ask(variables(1), add(2), variables(2), add(2)), [[0], [-1], [0], [0]])

    def test_told_again_behind_a_drop_of_the_last_clause(self):
        self.assertEqual(ask(variables(2), add(1), drop(), variables(4), add(4)), [[0], [0], [0], [0], [0]])

    def test_told_again_behind_a_drop_that_leaves_a_clause(self):
        self.assertEqual(ask(variables(2), add(1), add(2), drop(), variables(4)), [[0], [0], [1], [1], [-1]])

    def test_a_refusal_leaves_the_variables(self):
        for n in (LEAST_INT, -3, 0, 65, GREATEST_INT):
            with self.subTest(n=n):
                line = [variables(3), variables(n), solve(4), add(4), add(3), solve()]
                self.assertEqual(ask(*line), [[0], [-1], [-1], [-1], [0], [1, 4]])

    def test_a_refusal_at_first_leaves_none(self):
        self.assertEqual(ask(variables(65), add(1), variables(0), add(1)), [[-1], [-1], [-1], [-1]])


if __name__ == "__main__":
    unittest.main()
