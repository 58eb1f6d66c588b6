"""answers(calls): the form of what is handed in and given back."""

import unittest

from claimshares.sharing import answers
from helper import claim, joined, new_class, share, there


class Interface(unittest.TestCase):
    def forty_calls(self):
        calls = [new_class(rule) for rule in range(4)]
        calls.extend(claim(k, 100 * k + i + 1, i + 2) for i in range(8) for k in range(4))
        calls.extend([there(777, 5), claim(0, 1, 1), share(), share()])
        return calls

    def test_one_call(self):
        self.assertEqual(answers([0, 3]), [1, 0])
        self.assertEqual(answers([0, 4]), [1, -1])
        self.assertEqual(answers([1, 0, 1, 1]), [1, -2])
        self.assertEqual(answers([2, 1, 2]), [1, 0])
        self.assertEqual(answers([2, 1, 0]), [1, -1])
        self.assertEqual(answers([3]), [1, 0])

    def test_how_many_numbers_and_then_these(self):
        calls = [0, 0, 1, 0, 3, 2, 1, 0, 1, 2, 2, 1, 1, 0, 3, 3, 1, 0, 0, 1, 0, 9, 3]
        told = [1, 0, 1, 0, 1, 1, 1, 0, 1, 1, 7, 2, 2, 3, 4, 1, 4, 0, 1, -1, 1, -1, 7, 2, 2, 3, 4, 1, 4, 0]
        self.assertEqual(answers(calls), told)

    def test_numbers_of_a_call_are_not_taken_for_calls(self):
        self.assertEqual(answers([2, 3, 3, 3]), [1, 0, 1, 0])
        self.assertEqual(answers([0, 3, 1, 0, 3, 3, 2, 3, 3, 3]), [1, 0, 1, 0, 1, 0, 4, 1, 1, 1, 1])

    def test_forty_calls(self):
        calls = self.forty_calls()
        self.assertEqual(len(calls), 40)
        given = answers(joined(*calls))
        entered = joined(*[[1, k] for k in range(4)], *[[1, i] for i in range(8) for _ in range(4)], [1, 0], [1, -8])
        self.assertEqual(given[:len(entered)], entered)
        shares = given[len(entered):]
        self.assertEqual(len(shares), 2 * (1 + 1 + 4 * (1 + 16)))
        self.assertEqual(shares[:70], shares[70:])
        self.assertEqual(shares[:3], [69, 4, 8])
        self.assertEqual(shares[3:19], [1, 2, 2, 3, 3, 4, 4, 5, 5, 6, 6, 7, 7, 8, 8, 9])

    def test_forty_shares(self):
        self.assertEqual(answers([3] * 40), [1, 0] * 40)

    def test_what_was_handed_in_stays(self):
        calls = joined(*self.forty_calls())
        copy = list(calls)
        answers(calls)
        self.assertEqual(calls, copy)

    def test_second_time_is_like_the_first(self):
        calls = joined(*self.forty_calls())
        first = answers(calls)
        kept = list(first)
        first.append(5)
        self.assertEqual(answers([3]), [1, 0])
        self.assertEqual(answers(calls), kept)

    def test_nothing_is_there_at_the_beginning_of_each_list(self):
        answers([2, 9, 1, 0, 0])
        self.assertEqual(answers([0, 0, 1, 0, 1, 1, 3]), [1, 0, 1, 0, 4, 1, 1, 0, 1])

    def test_a_list_of_whole_numbers(self):
        given = answers(joined(*self.forty_calls()))
        self.assertIs(type(given), list)
        self.assertEqual({type(number) for number in given}, {int})


if __name__ == "__main__":
    unittest.main()
