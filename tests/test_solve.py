"""Points 4 and 5: what a way is, and the call solve."""

import random
import time
import unittest

from lines import GREATEST_INT, LEAST_INT, Words, add, ask, drop, solve, some_parts, variables


class Ways(unittest.TestCase):
    def test_no_variables_and_no_clauses(self):
        self.assertEqual(ask(solve()), [[1, 0]])

    def test_no_clauses(self):
        self.assertEqual(ask(variables(10), solve()), [[0], [1, 0]])

    def test_a_clause_without_parts(self):
        self.assertEqual(ask(add(), solve()), [[0], [0]])
        self.assertEqual(ask(variables(3), add(1), add(), add(2), solve(), solve(1)), [[0], [0], [1], [2], [0], [0]])

    def test_variable_i_is_bit_i_minus_1(self):
        for i in range(1, 11):
            with self.subTest(i=i):
                self.assertEqual(ask(variables(10), add(i), solve()), [[0], [0], [1, 2 ** (i - 1)]])
                self.assertEqual(ask(variables(10), solve(i)), [[0], [1, 2 ** (i - 1)]])

    def test_the_greatest_way(self):
        line = [variables(10)] + [add(i) for i in range(1, 11)] + [solve()]
        self.assertEqual(ask(*line)[-1], [1, 1023])

    def test_the_least_of_several_ways(self):
        self.assertEqual(ask(variables(3), add(1, 2, 3), solve()), [[0], [0], [1, 1]])
        self.assertEqual(ask(variables(3), add(3, 2), solve()), [[0], [0], [1, 2]])
        self.assertEqual(ask(variables(3), add(3, 1), add(3, 2), solve()), [[0], [0], [1], [1, 3]])
        self.assertEqual(ask(variables(3), add(3, -1), add(3, 1), solve()), [[0], [0], [1], [1, 4]])

    def test_no_way(self):
        self.assertEqual(ask(variables(1), add(1), add(-1), solve()), [[0], [0], [1], [0]])
        line = [variables(2), add(1, 2), add(1, -2), add(-1, 2), solve(), add(-1, -2), solve()]
        self.assertEqual(ask(*line), [[0], [0], [1], [2], [1, 3], [3], [0]])

    def test_solve_changes_nothing(self):
        line = [variables(2), add(1, 2), solve(2), solve(), solve(-1), solve(), drop(), solve()]
        self.assertEqual(ask(*line), [[0], [0], [1, 2], [1, 1], [1, 2], [1, 1], [0], [1, 0]])


class Assumptions(unittest.TestCase):
    def test_that_take_the_least_way_away(self):
        line = [variables(3), add(1, 2, 3), solve(-1), solve(-1, -2), solve(-1, -2, -3), solve(2), solve(3, 1)]
        self.assertEqual(ask(*line), [[0], [0], [1, 2], [1, 4], [0], [1, 2], [1, 5]])

    def test_against_one_another(self):
        self.assertEqual(ask(variables(2), solve(1, -1), solve(-2, 1, 2)), [[0], [0], [0]])

    def test_one_twice(self):
        self.assertEqual(ask(variables(2), solve(2, 2), solve(-2, -2)), [[0], [1, 2], [1, 0]])

    def test_against_a_clause(self):
        self.assertEqual(ask(variables(2), add(-2), solve(2), solve(-2)), [[0], [0], [0], [1, 0]])

    def test_32(self):
        self.assertEqual(ask(variables(2), solve(*[2] * 32)), [[0], [1, 2]])
        self.assertEqual(ask(variables(2), solve(*[2] * 31, -2)), [[0], [0]])
        self.assertEqual(ask(variables(2), solve(*[2] * 31, 1)), [[0], [1, 3]])

    def test_more_than_32(self):
        for count in (33, 34, 40):
            with self.subTest(count=count):
                self.assertEqual(ask(variables(2), solve(*[2] * count)), [[0], [-1]])
                self.assertEqual(ask(variables(64), solve(*range(1, count + 1))), [[0], [-1]])

    def test_of_a_variable_that_there_is_not(self):
        for n in (1, 3, 10, 11, 63, 64):
            for part in (0, n + 1, -n - 1, 65, -65, GREATEST_INT, -GREATEST_INT, LEAST_INT):
                with self.subTest(n=n, part=part):
                    self.assertEqual(ask(variables(n), solve(part)), [[0], [-1]])
                    self.assertEqual(ask(variables(n), solve(1, part)), [[0], [-1]])
                    self.assertEqual(ask(variables(n), solve(part, 1)), [[0], [-1]])

    def test_with_no_variables(self):
        for part in (1, -1, 0, LEAST_INT, GREATEST_INT):
            with self.subTest(part=part):
                self.assertEqual(ask(solve(part), add(), solve(part)), [[-1], [0], [-1]])

    def test_a_refusal_comes_before_no_way(self):
        self.assertEqual(ask(variables(2), add(), solve(3), solve(0), solve(*[1] * 33)), [[0], [0], [-1], [-1], [-1]])
        self.assertEqual(ask(variables(2), solve(1, -1, 3)), [[0], [-1]])

    def test_a_refusal_changes_nothing(self):
        line = [variables(2), add(1, 2), solve(3), solve(*[-1] * 33), solve(), add(-1), solve()]
        self.assertEqual(ask(*line), [[0], [0], [-1], [-1], [1, 1], [1], [1, 2]])


class Many(unittest.TestCase):
    def test_against_the_words(self):
        source = random.Random(20261116)
        for each in range(300):
            n = source.randint(1, 6)
            line = [variables(n)]
            wanted = [[0]]
            clauses = []
            for call in range(source.randint(1, 30)):
                choice = source.randint(0, 5)
                if choice <= 2:
                    parts = some_parts(source, n, 4) or [n]
                    wanted.append([len(clauses)])
                    clauses.append(parts)
                    line.append(add(*parts))
                elif choice == 3 and clauses:
                    clauses.pop()
                    wanted.append([len(clauses)])
                    line.append(drop())
                else:
                    assumed = some_parts(source, n, 3)
                    wanted.append(Words(n, clauses).solve(assumed))
                    line.append(solve(*assumed))
            with self.subTest(line=line):
                self.assertEqual(ask(*line), wanted)

    def test_10_variables_and_many_clauses_in_good_time(self):
        # The clauses leave no short way out: each holds nearly everywhere, and the last way alone fits.
        clauses = [[10 - place % 10] * 15 + [-(10 - place % 10)] for place in range(20)]
        clauses = clauses + [[i] for i in range(10, 0, -1)]
        line = [variables(10)] + [add(*parts) for parts in clauses] + [solve(1)] * 14 + [solve(-1)] * 15
        self.assertEqual(len(line), 60)
        start = time.monotonic()
        answered = ask(*line)
        self.assertLess(time.monotonic() - start, 5)
        self.assertEqual(answered[31:], [[1, 1023]] * 14 + [[0]] * 15)

    def test_10_variables_with_no_way(self):
        source = random.Random(7)
        clauses = [some_parts(source, 10, 3) or [1, 2] for each in range(40)]
        line = [variables(10)] + [add(*parts) for parts in clauses] + [solve()] * 3
        self.assertEqual(ask(*line)[41:], [Words(10, clauses).solve([])] * 3)
        halves = [[i, j] for i in (9, -9) for j in (10, -10)]
        line = [variables(10)] + [add(*parts) for parts in halves] + [solve()]
        self.assertEqual(ask(*line)[5:], [[0]])


if __name__ == "__main__":
    unittest.main()
