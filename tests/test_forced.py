"""Point 8: the call forced."""

import random
import time
import unittest

from lines import Words, add, ask, count, drop, fault, forced, solve, some_parts, variables


def last(*calls):
    return ask(*calls)[-1]


class NoVariables(unittest.TestCase):
    def test_no_clauses(self):
        self.assertEqual(ask(forced()), [[0, 0, 0]])

    def test_a_clause_without_parts(self):
        self.assertEqual(ask(add(), forced(), drop(), forced()), [[0], [-1], [0], [0, 0, 0]])


class Forced(unittest.TestCase):
    def test_no_clauses(self):
        for n in (1, 2, 10):
            with self.subTest(n=n):
                self.assertEqual(last(variables(n), forced()), [0, 0, 0])

    def test_true_in_every_way(self):
        for i in range(1, 11):
            with self.subTest(i=i):
                self.assertEqual(last(variables(10), add(i), forced()), [0, 2 ** (i - 1), 0])

    def test_false_in_every_way(self):
        for i in range(1, 11):
            with self.subTest(i=i):
                self.assertEqual(last(variables(10), add(-i), forced()), [0, 0, 2 ** (i - 1)])

    def test_neither(self):
        self.assertEqual(last(variables(2), add(1, 2), forced()), [0, 0, 0])
        self.assertEqual(last(variables(2), add(1, 2), add(-1, -2), forced()), [0, 0, 0])
        self.assertEqual(last(variables(3), add(-1, 2), add(-2, 3), add(-3, 1), forced()), [0, 0, 0])

    def test_all_of_them_in_one_answer(self):
        self.assertEqual(last(variables(3), add(1), add(-2), forced()), [0, 1, 2])
        self.assertEqual(last(variables(4), add(4), add(-4, -2), add(1, 3), forced()), [0, 8, 2])
        self.assertEqual(last(variables(10), add(-1), add(10), add(5), add(-6), add(2, 3), forced()), [0, 528, 33])

    def test_one_way_alone(self):
        self.assertEqual(last(variables(3), add(1), add(-2), add(3), forced()), [0, 5, 2])
        line = [variables(10)] + [add(i) for i in range(1, 11)]
        self.assertEqual(last(*line, forced()), [0, 1023, 0])
        line = [variables(10)] + [add(-i) for i in range(1, 11)]
        self.assertEqual(last(*line, forced()), [0, 0, 1023])

    def test_through_several_clauses(self):
        self.assertEqual(last(variables(4), add(1), add(-1, 2), add(-2, -3), forced()), [0, 3, 4])
        self.assertEqual(last(variables(3), add(1, 2), add(1, -2), forced()), [0, 1, 0])
        self.assertEqual(last(variables(3), add(-1, 2), add(-1, -2), forced()), [0, 0, 1])

    def test_a_part_both_ways_forces_nothing(self):
        self.assertEqual(last(variables(2), add(1, -1), add(2, 2), forced()), [0, 2, 0])

    def test_no_way(self):
        self.assertEqual(last(variables(3), add(), forced()), [-1])
        self.assertEqual(last(variables(3), add(2), add(-2), forced()), [-1])
        self.assertEqual(last(variables(2), add(1, 2), add(1, -2), add(-1, 2), add(-1, -2), forced()), [-1])

    def test_no_way_changes_nothing(self):
        line = [variables(2), add(2), add(-2), forced(), drop(), forced(), add(-1), forced(), drop(), drop(), drop()]
        wanted = [[0], [0], [1], [-1], [1], [0, 2, 0], [1], [0, 2, 1], [1], [0], [-1]]
        self.assertEqual(ask(*line), wanted)

    def test_variables_told_anew(self):
        line = [variables(4), add(4), drop(), variables(2), forced(), add(-2), forced()]
        self.assertEqual(ask(*line), [[0], [0], [0], [0], [0, 0, 0], [0], [0, 0, 2]])

    def test_forced_changes_nothing(self):
        calls = [add(1, 2), solve(), add(-2), fault(2), count(9), drop(), add(-1, -2), fault(1, 2), add(), drop()]
        plain = ask(variables(2), *calls)
        among = [variables(2)]
        for call in calls:
            among = among + [forced(), forced(), call]
        self.assertEqual(ask(*among)[::3], plain)

    def test_adds_and_drops_between(self):
        line = [variables(3), forced(), add(1), forced(), add(-1, -3), forced(), drop(), forced(), drop(), forced()]
        self.assertEqual(ask(*line)[1::2], [[0, 0, 0], [0, 1, 0], [0, 1, 4], [0, 1, 0], [0, 0, 0]])


class Many(unittest.TestCase):
    def test_against_the_words(self):
        source = random.Random(20261119)
        for each in range(300):
            n = source.randint(1, 6)
            clauses = [some_parts(source, n, 3) or [n] for clause in range(source.randint(0, 8))]
            line = [variables(n)] + [add(*parts) for parts in clauses] + [forced()]
            with self.subTest(line=line):
                self.assertEqual(last(*line), Words(n, clauses).forced())

    def test_10_variables_and_many_clauses_in_good_time(self):
        clauses = [[i % 10 + 1] * 15 + [-(i % 10 + 1)] for i in range(29)]
        line = [variables(10)] + [add(*parts) for parts in clauses] + [forced()] * 30
        start = time.monotonic()
        answered = ask(*line)
        self.assertLess(time.monotonic() - start, 5)
        self.assertEqual(answered[30:], [[0, 0, 0]] * 30)


if __name__ == "__main__":
    unittest.main()
