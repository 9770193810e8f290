"""Point 3: the calls add and drop."""

import unittest

from clausehall.clauses import ClauseSet
from lines import GREATEST_INT, LEAST_INT, add, ask, drop, solve, variables


class Add(unittest.TestCase):
    def test_numbers_from_0(self):
        self.assertEqual(ask(variables(3), add(1), add(-2, 3), add(2)), [[0], [0], [1], [2]])

    def test_no_parts(self):
        self.assertEqual(ask(variables(3), add(), add(), solve()), [[0], [0], [1], [0]])

    def test_no_parts_and_no_variables(self):
        self.assertEqual(ask(add(), add(), solve()), [[0], [1], [0]])

    def test_16_parts(self):
        self.assertEqual(ask(variables(16), add(*range(1, 17))), [[0], [0]])
        self.assertEqual(ask(variables(1), add(*[1] * 16), solve()), [[0], [0], [1, 1]])

    def test_each_of_16_parts_counts(self):
        for place in range(16):
            with self.subTest(place=place):
                parts = [1] * 16
                parts[place] = 2
                line = [variables(2), add(*parts), add(-1), solve()]
                self.assertEqual(ask(*line), [[0], [0], [1], [1, 2]])

    def test_more_than_16_parts(self):
        for count in (17, 18, 32, 40):
            with self.subTest(count=count):
                self.assertEqual(ask(variables(40), add(*range(1, count + 1))), [[0], [-1]])
                self.assertEqual(ask(variables(1), add(*[1] * count)), [[0], [-1]])

    def test_the_part_0(self):
        self.assertEqual(ask(variables(3), add(0)), [[0], [-1]])
        self.assertEqual(ask(variables(3), add(1, 0, 2)), [[0], [-1]])

    def test_a_variable_that_there_is_not(self):
        for part in (4, -4, 65, -65, GREATEST_INT, -GREATEST_INT, LEAST_INT):
            with self.subTest(part=part):
                self.assertEqual(ask(variables(3), add(part)), [[0], [-1]])
                self.assertEqual(ask(variables(3), add(1, 2, part)), [[0], [-1]])
                self.assertEqual(ask(variables(3), add(part, 1, 2)), [[0], [-1]])

    def test_no_variables_at_all(self):
        for part in (1, -1, 0, 64, LEAST_INT, GREATEST_INT):
            with self.subTest(part=part):
                self.assertEqual(ask(add(part), drop()), [[-1], [-1]])

    def test_a_part_twice(self):
        self.assertEqual(ask(variables(2), add(2, 2), solve()), [[0], [0], [1, 2]])
        self.assertEqual(ask(variables(2), add(-2, -2), solve(2)), [[0], [0], [0]])

    def test_a_part_both_ways(self):
        line = [variables(2), add(2, -2), solve(), solve(2), solve(-2)]
        self.assertEqual(ask(*line), [[0], [0], [1, 0], [1, 2], [1, 0]])

    def test_a_clause_twice(self):
        self.assertEqual(ask(variables(1), add(1), add(1), drop(), solve()), [[0], [0], [1], [1], [1, 1]])

    def test_numbers_behind_a_drop(self):
        line = [variables(2), add(1), add(2), drop(), add(-2), add(1, 2), drop(), drop(), drop(), add(2)]
        self.assertEqual(ask(*line), [[0], [0], [1], [1], [1], [2], [2], [1], [0], [0]])

    def test_a_refusal_adds_nothing(self):
        for parts in ([-1] * 17, [-1] * 40, [0], [3], [-3], [-1, 0], [-1, 3], [-1, -3]):
            with self.subTest(parts=parts):
                line = [variables(2), add(1), add(*parts), solve(), add(2), solve(), drop(), drop(), drop()]
                wanted = [[0], [0], [-1], [1, 1], [1], [1, 3], [1], [0], [-1]]
                self.assertEqual(ask(*line), wanted)

    def test_1024_clauses(self):
        # A line is too short for so many clauses, so the set itself is asked.
        clause_set = ClauseSet()
        clause_set.variables(1)
        for number in range(1024):
            self.assertEqual(clause_set.add([1]), [number])
        self.assertEqual(clause_set.add([1]), [-1])
        self.assertEqual(clause_set.add([]), [-1])
        self.assertEqual(clause_set.solve([]), [1, 1])
        self.assertEqual(clause_set.drop(), [1023])
        self.assertEqual(clause_set.add([-1]), [1023])
        self.assertEqual(clause_set.solve([]), [0])


class Drop(unittest.TestCase):
    def test_no_clause(self):
        self.assertEqual(ask(drop(), drop()), [[-1], [-1]])
        self.assertEqual(ask(variables(5), drop()), [[0], [-1]])

    def test_one_clause(self):
        line = [variables(1), add(1), drop(), solve(), drop()]
        self.assertEqual(ask(*line), [[0], [0], [0], [1, 0], [-1]])

    def test_several_clauses(self):
        line = [variables(3), add(1), add(2), add(3), drop(), drop(), drop(), drop()]
        self.assertEqual(ask(*line), [[0], [0], [1], [2], [2], [1], [0], [-1]])

    def test_the_last_clause_is_gone(self):
        line = [variables(3), add(1), add(2), add(3), solve(), drop(), solve(), drop(), solve()]
        self.assertEqual(ask(*line), [[0], [0], [1], [2], [1, 7], [2], [1, 3], [1], [1, 1]])

    def test_a_clause_without_parts(self):
        self.assertEqual(ask(variables(1), add(), solve(), drop(), solve()), [[0], [0], [0], [0], [1, 0]])

    def test_a_refusal_changes_nothing(self):
        self.assertEqual(ask(variables(2), drop(), add(2), solve()), [[0], [-1], [0], [1, 2]])

    def test_the_variables_stay(self):
        self.assertEqual(ask(variables(2), add(1), drop(), add(2), add(3)), [[0], [0], [0], [0], [-1]])


if __name__ == "__main__":
    unittest.main()
