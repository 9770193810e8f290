"""Point 7: the call count."""

import random
import time
import unittest

from lines import (
    GREATEST_MOST, Words, add, ask, count, drop, fault, forced, solve, some_parts, variables,
)


def last(*calls):
    return ask(*calls)[-1]


class NoVariables(unittest.TestCase):
    def test_no_clauses(self):
        self.assertEqual(ask(count(0), count(1), count(2), count(GREATEST_MOST)), [[0], [1], [1], [1]])

    def test_a_clause_without_parts(self):
        self.assertEqual(ask(add(), count(0), count(1), count(GREATEST_MOST)), [[0], [0], [0], [0]])

    def test_behind_a_drop(self):
        self.assertEqual(ask(add(), count(5), drop(), count(5)), [[0], [0], [0], [1]])


class Most(unittest.TestCase):
    def test_against_7_ways(self):
        for most in (0, 1, 2, 6, 7, 8, 9, 1000, 2 ** 31, 2 ** 32, 2 ** 63, 2 ** 64 - 2, GREATEST_MOST):
            with self.subTest(most=most):
                self.assertEqual(last(variables(3), add(1, 2, 3), count(most)), [min(most, 7)])

    def test_against_no_way(self):
        for most in (0, 1, GREATEST_MOST):
            with self.subTest(most=most):
                self.assertEqual(last(variables(3), add(2), add(-2), count(most)), [0])

    def test_against_1024_ways(self):
        for most in (0, 1, 1023, 1024, 1025, GREATEST_MOST):
            with self.subTest(most=most):
                self.assertEqual(last(variables(10), count(most)), [min(most, 1024)])


class Count(unittest.TestCase):
    def test_no_clauses(self):
        for n in range(1, 11):
            with self.subTest(n=n):
                self.assertEqual(last(variables(n), count(GREATEST_MOST)), [2 ** n])

    def test_a_clause_of_one_part_halves(self):
        for i in range(1, 11):
            with self.subTest(i=i):
                self.assertEqual(last(variables(10), add(i), count(GREATEST_MOST)), [512])
                self.assertEqual(last(variables(10), add(-i), count(GREATEST_MOST)), [512])

    def test_one_way(self):
        line = [variables(10)] + [add(i) for i in range(1, 6)] + [add(-i) for i in range(6, 11)]
        self.assertEqual(last(*line, count(GREATEST_MOST)), [1])
        self.assertEqual(last(*line, count(0)), [0])

    def test_no_way(self):
        self.assertEqual(last(variables(3), add(), count(GREATEST_MOST)), [0])
        line = [variables(2), add(1, 2), add(1, -2), add(-1, 2), count(9), add(-1, -2), count(9)]
        self.assertEqual(ask(*line), [[0], [0], [1], [2], [1], [3], [0]])

    def test_parts_twice_and_both_ways(self):
        self.assertEqual(last(variables(2), add(1, 1), count(9)), [2])
        self.assertEqual(last(variables(2), add(1, -1), count(9)), [4])

    def test_variables_told_anew(self):
        self.assertEqual(ask(variables(3), count(99), variables(5), count(99)), [[0], [8], [0], [32]])

    def test_count_changes_nothing(self):
        calls = [add(1, 2), solve(), add(-2), fault(2), forced(), drop(), add(-1, -2), fault(1, 2), solve(1), drop()]
        plain = ask(variables(2), *calls)
        among = [variables(2)]
        for call in calls:
            among = among + [count(0), count(1), count(GREATEST_MOST), call]
        self.assertEqual(ask(*among)[::4], plain)

    def test_adds_and_drops_between(self):
        line = [variables(3), count(9), add(1), count(9), add(2, 3), count(9), drop(), count(9), drop(), count(9)]
        self.assertEqual(ask(*line)[1::2], [[8], [4], [3], [4], [8]])


class Many(unittest.TestCase):
    def test_against_the_words(self):
        source = random.Random(20261118)
        for each in range(200):
            n = source.randint(1, 6)
            clauses = [some_parts(source, n, 4) or [n] for clause in range(source.randint(0, 6))]
            mosts = [source.randint(0, 2 ** n), source.randint(0, 8), GREATEST_MOST]
            line = [variables(n)] + [add(*parts) for parts in clauses] + [count(most) for most in mosts]
            with self.subTest(line=line):
                self.assertEqual(ask(*line)[-3:], [Words(n, clauses).count(most) for most in mosts])

    def test_10_variables_and_many_clauses_in_good_time(self):
        clauses = [[i % 10 + 1] * 15 + [-(i % 10 + 1)] for i in range(29)]
        line = [variables(10)] + [add(*parts) for parts in clauses] + [count(GREATEST_MOST)] * 30
        start = time.monotonic()
        answered = ask(*line)
        self.assertLess(time.monotonic() - start, 5)
        self.assertEqual(answered[30:], [[1024]] * 30)


if __name__ == "__main__":
    unittest.main()
