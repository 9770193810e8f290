"""The interface: how calls and answers are laid in a list."""

import unittest

import clausehall.clauses
from clausehall.clauses import UnknownCall, answers
from lines import add, drop, laid, solve, variables


class Frozen(list):
    """A list that no one may change, not for a while either."""

    def refuse(self, *handed, **named):
        raise AssertionError("the list handed in was changed")

    append = clear = extend = insert = pop = remove = reverse = sort = refuse
    __setitem__ = __delitem__ = __iadd__ = __imul__ = refuse


class Answers(unittest.TestCase):
    def test_the_name_that_the_document_tells(self):
        self.assertEqual(clausehall.clauses.answers([1, 1]), [1, 0])

    def test_one_call(self):
        self.assertEqual(answers([1, 5]), [1, 0])
        self.assertEqual(answers([1, 65]), [1, -1])
        self.assertEqual(answers([2, 0]), [1, 0])
        self.assertEqual(answers([2, 1, 1]), [1, -1])
        self.assertEqual(answers([3]), [1, -1])
        self.assertEqual(answers([4, 0]), [2, 1, 0])
        self.assertEqual(answers([4, 2, 1, 1]), [1, -1])

    def test_several_calls(self):
        calls = [1, 2, 2, 2, 1, 2, 2, 1, -1, 4, 0, 4, 1, -2, 3]
        self.assertEqual(answers(calls), [1, 0, 1, 0, 1, 1, 2, 1, 2, 1, 0, 1, 1])

    def test_numbers_handed_in_are_not_taken_for_calls(self):
        self.assertEqual(answers([1, 4, 2, 3, 3, 4, 1, 4, 1, 3, 3, 3]), [1, 0, 1, 0, 2, 1, 4, 1, 0, 1, -1])

    def test_a_refused_row_is_passed_over_whole(self):
        calls = laid([variables(4), add(*[3] * 40), solve(*[3] * 40), drop(), solve(3)])
        self.assertEqual(answers(calls), [1, 0, 1, -1, 1, -1, 1, -1, 2, 1, 4])

    def test_60_calls(self):
        calls = laid([variables(1)] + [add(1, -1)] * 58 + [solve(1)])
        wanted = [1, 0]
        for number in range(58):
            wanted += [1, number]
        self.assertEqual(answers(calls), wanted + [2, 1, 1])

    def test_kinds(self):
        answered = answers(laid([variables(2), add(1, 2), solve(), solve(3), drop(), drop()]))
        self.assertIs(type(answered), list)
        for number in answered:
            self.assertIs(type(number), int)

    def test_the_list_handed_in_is_as_it_was(self):
        calls = laid([variables(3), variables(65), add(1, 2), add(0), solve(-1), solve(4), drop(), drop()])
        kept = list(calls)
        wanted = answers(calls)
        self.assertEqual(calls, kept)
        self.assertEqual(answers(Frozen(kept)), wanted)

    def test_nothing_is_kept(self):
        self.assertEqual(answers([1, 3, 2, 1, 2, 4, 0]), [1, 0, 1, 0, 2, 1, 2])
        self.assertEqual(answers([4, 0, 2, 1, 1, 3]), [2, 1, 0, 1, -1, 1, -1])
        self.assertEqual(answers([1, 3, 2, 1, 2, 4, 0]), [1, 0, 1, 0, 2, 1, 2])

    def test_what_is_given_back_is_new(self):
        first = answers([1, 3, 4, 0])
        first.append(5)
        self.assertEqual(answers([1, 3, 4, 0]), [1, 0, 2, 1, 0])

    def test_a_number_that_is_no_call(self):
        for number in (0, -1, 8):
            with self.subTest(number=number):
                with self.assertRaises(UnknownCall):
                    answers([1, 1, number])


if __name__ == "__main__":
    unittest.main()
