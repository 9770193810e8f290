"""The interface: how calls and answers are laid in a list."""

import random
import unittest

import clausehall.clauses
from clausehall.clauses import UnknownCall, answers
from lines import (
    GREATEST_INT, GREATEST_MOST, LEAST_INT, Words, add, ask, count, drop, fault, forced, laid, solve, some_parts,
    split, variables,
)


class Frozen(list):
    """A list that no one may change, not for a while either."""

    def refuse(self, *handed, **named):
        raise AssertionError("the list handed in was changed")

    append = clear = extend = insert = pop = remove = reverse = sort = refuse
    __setitem__ = __delitem__ = __iadd__ = __imul__ = refuse


class Answers(unittest.TestCase):
    def test_the_name_that_the_document_tells(self):
        self.assertEqual(clausehall.clauses.answers([1, 1]), [1, 0])

    def test_one_call(self):
        self.assertEqual(answers([1, 5]), [1, 0])
        self.assertEqual(answers([1, 65]), [1, -1])
        self.assertEqual(answers([2, 0]), [1, 0])
        self.assertEqual(answers([2, 1, 1]), [1, -1])
        self.assertEqual(answers([3]), [1, -1])
        self.assertEqual(answers([4, 0]), [2, 1, 0])
        self.assertEqual(answers([4, 2, 1, 1]), [1, -1])
        self.assertEqual(answers([5, 0]), [1, 1])
        self.assertEqual(answers([5, 2, 1, 1]), [1, -1])
        self.assertEqual(answers([6, 0]), [1, 0])
        self.assertEqual(answers([6, GREATEST_MOST]), [1, 1])
        self.assertEqual(answers([7]), [3, 0, 0, 0])

    def test_several_calls(self):
        calls = [1, 2, 2, 2, 1, 2, 2, 1, -1, 4, 0, 4, 1, -2, 3]
        self.assertEqual(answers(calls), [1, 0, 1, 0, 1, 1, 2, 1, 2, 1, 0, 1, 1])
        calls = [1, 2, 2, 2, 1, 2, 2, 1, -1, 5, 2, 1, -2, 5, 1, 2, 6, 9, 7, 2, 1, -2, 5, 1, 1, 6, 9, 7, 3]
        wanted = [1, 0, 1, 0, 1, 1, 2, 0, 1, 1, 1, 1, 1, 3, 0, 2, 1, 1, 2, 2, 0, 0, 1, 0, 1, -1, 1, 2]
        self.assertEqual(answers(calls), wanted)

    def test_numbers_handed_in_are_not_taken_for_calls(self):
        self.assertEqual(answers([1, 4, 2, 3, 3, 4, 1, 4, 1, 3, 3, 3]), [1, 0, 1, 0, 2, 1, 4, 1, 0, 1, -1])
        self.assertEqual(answers([1, 7, 5, 3, 7, 6, 5, 6, 7, 6, 3, 3]), [1, 0, 1, 1, 1, 7, 1, 3, 1, -1])

    def test_a_refused_row_is_passed_over_whole(self):
        calls = laid([variables(4), add(*[3] * 40), solve(*[3] * 40), drop(), solve(3)])
        self.assertEqual(answers(calls), [1, 0, 1, -1, 1, -1, 1, -1, 2, 1, 4])
        calls = laid([variables(4), fault(*[3] * 40), fault(*[7] * 33), fault(0, 7, 7), drop(), fault(3)])
        self.assertEqual(answers(calls), [1, 0, 1, -1, 1, -1, 1, -1, 1, -1, 1, 1])

    def test_60_calls(self):
        calls = laid([variables(1)] + [add(1, -1)] * 58 + [solve(1)])
        wanted = [1, 0]
        for number in range(58):
            wanted += [1, number]
        self.assertEqual(answers(calls), wanted + [2, 1, 1])

    def test_kinds(self):
        calls = [variables(2), add(1, 2), solve(), solve(3), fault(-1, -2), fault(1), fault(3), count(0), count(9)]
        answered = answers(laid(calls + [forced(), add(), forced(), count(9), drop(), drop(), drop()]))
        self.assertIs(type(answered), list)
        for number in answered:
            self.assertIs(type(number), int)

    def test_the_list_handed_in_is_as_it_was(self):
        calls = [variables(3), variables(65), add(1, 2), add(0), solve(-1), solve(4), fault(3, -1, -2), fault(1)]
        calls = laid(calls + [fault(4), count(1), forced(), drop(), drop()])
        kept = list(calls)
        wanted = answers(calls)
        self.assertEqual(calls, kept)
        self.assertEqual(answers(Frozen(kept)), wanted)

    def test_nothing_is_kept(self):
        self.assertEqual(answers([1, 3, 2, 1, 2, 4, 0]), [1, 0, 1, 0, 2, 1, 2])
        self.assertEqual(answers([4, 0, 2, 1, 1, 3]), [2, 1, 0, 1, -1, 1, -1])
        self.assertEqual(answers([1, 3, 2, 1, 2, 4, 0]), [1, 0, 1, 0, 2, 1, 2])

    def test_nothing_of_the_other_calls_is_kept(self):
        first = [1, 3, 2, 1, 2, 5, 1, -2, 6, 99, 7]
        second = [7, 6, 99, 5, 0, 5, 1, 2, 1, 1, 7, 6, 99]
        for each in range(2):
            self.assertEqual(answers(first), [1, 0, 1, 0, 2, 0, 1, 1, 4, 3, 0, 2, 0])
            self.assertEqual(answers(second), [3, 0, 0, 0, 1, 1, 1, 1, 1, -1, 1, 0, 3, 0, 0, 0, 1, 2])

    def test_what_is_given_back_is_new(self):
        first = answers([1, 3, 4, 0])
        first.append(5)
        self.assertEqual(answers([1, 3, 4, 0]), [1, 0, 2, 1, 0])

    def test_a_number_that_is_no_call(self):
        for number in (0, -1, 8):
            with self.subTest(number=number):
                with self.assertRaises(UnknownCall):
                    answers([1, 1, number])


def some_call(source, n):
    """A call, mostly one that is taken, sometimes one that is refused; n is how many variables there are."""
    number = source.choice((1, 2, 2, 3, 4, 5, 5, 6, 7))
    if number == 1:
        return variables(source.choice((0, 1, 2, 3, 4, 5, 6, 65, -1, LEAST_INT, GREATEST_INT)))
    if number == 3:
        return drop()
    if number == 6:
        return count(source.choice((0, 1, 2, 7, 2 ** n, GREATEST_MOST)))
    if number == 7:
        return forced()
    parts = some_parts(source, n, 5) if n > 0 else []
    # A short clause soon leaves no way, and then all answers are alike.
    if number == 2 and len(parts) < 3 and source.randint(0, 9) > 0:
        return add(*parts, n, -1) if n > 0 else variables(6)
    if source.randint(0, 9) == 0:
        parts = parts + [source.choice((0, n + 1, -n - 1, LEAST_INT, GREATEST_INT))]
    if source.randint(0, 19) == 0:
        parts = (parts or [1]) * 40
    return {2: add, 4: solve, 5: fault}[number](*parts[:40])


class ByWords:
    """A line's calls, answered by the document's words alone."""

    def __init__(self):
        self.n = 0
        self.clauses = []

    def knows(self, parts):
        return all(1 <= abs(part) <= self.n for part in parts)

    def answer(self, call):
        number = call[0]
        words = Words(self.n, self.clauses)
        if number == 1:
            if not 1 <= call[1] <= 64 or self.clauses:
                return [-1]
            self.n = call[1]
            return [0]
        if number == 2:
            if len(call) > 18 or not self.knows(call[2:]):
                return [-1]
            self.clauses.append(call[2:])
            return [len(self.clauses) - 1]
        if number == 3:
            if not self.clauses:
                return [-1]
            self.clauses.pop()
            return [len(self.clauses)]
        if number == 6:
            return words.count(call[1])
        if number == 7:
            return words.forced()
        if len(call) > 34 or not self.knows(call[2:]):
            return [-1]
        return words.solve(call[2:]) if number == 4 else words.fault(call[2:])


class Mixed(unittest.TestCase):
    def test_all_seven_calls(self):
        line = [
            variables(3), add(1, 2), add(-1, 3), count(99), forced(), fault(-2, -3), solve(-2), add(-3), solve(),
            fault(-2, 1), fault(1, -2), forced(), count(99), add(-2), forced(), count(99), fault(1), solve(), drop(),
            drop(), forced(), variables(2), drop(), drop(), variables(1), count(99), fault(2), drop(),
        ]
        wanted = [
            [0], [0], [1], [4], [0, 0, 0], [0, 3], [1, 5], [2], [1, 2],
            [0, 1], [0, 1], [0, 2, 5], [1], [3], [-1], [0], [0, 0], [0], [3],
            [2], [0, 0, 0], [-1], [1], [0], [0], [2], [-1], [-1],
        ]
        self.assertEqual(ask(*line), wanted)

    def test_against_the_words(self):
        source = random.Random(20261120)
        firsts = {}
        for each in range(250):
            by_words = ByWords()
            line = []
            wanted = []
            for place in range(source.choice((1, 2, 10, 30, 60))):
                call = some_call(source, by_words.n)
                line.append(call)
                wanted.append(by_words.answer(call))
            firsts[line[0][0]] = True
            calls = laid(line)
            kept = list(calls)
            with self.subTest(line=line):
                answered = answers(calls)
                self.assertEqual(split(answered), wanted)
                self.assertEqual(answered, [number for row in wanted for number in [len(row)] + row])
                self.assertEqual(calls, kept)
                self.assertEqual(answers(calls), answered)
        self.assertEqual(sorted(firsts), [1, 2, 3, 4, 5, 6, 7])

    def test_60_calls_with_10_variables(self):
        clauses = [[i, -(i % 10 + 1), (i + 4) % 10 + 1] for i in range(1, 11)] * 3
        asked = [solve(1), fault(1, -2, 3, -4, 5, -6), count(GREATEST_MOST), forced()]
        words = Words(10, clauses)
        wanted = [words.solve([1]), words.fault([1, -2, 3, -4, 5, -6]), words.count(GREATEST_MOST), words.forced()]
        line = [variables(10)] + [add(*parts) for parts in clauses] + asked * 7 + [drop()]
        self.assertEqual(len(line), 60)
        self.assertEqual(ask(*line), [[0]] + [[i] for i in range(30)] + wanted * 7 + [[29]])


if __name__ == "__main__":
    unittest.main()
