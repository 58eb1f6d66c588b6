"""class, claim and there: what they answer and what they refuse."""

import unittest

from helper import ask, claim, last, new_class, share, there

TOP = 1000000


class NewClass(unittest.TestCase):
    def test_numbers_rise_from_0(self):
        self.assertEqual(ask(*[new_class(0)] * 4), [[0], [1], [2], [3]])

    def test_every_rule_to_3(self):
        for rule in range(4):
            self.assertEqual(ask(new_class(rule)), [[0]])

    def test_rule_above_3(self):
        for rule in (4, 5, TOP):
            self.assertEqual(ask(new_class(rule)), [[-1]])

    def test_fifth_class(self):
        self.assertEqual(last(*[new_class(1)] * 5), [-8])

    def test_rule_is_told_before_fifth_class(self):
        self.assertEqual(last(*[new_class(1)] * 4, new_class(4)), [-1])

    def test_refused_class_is_not_there(self):
        self.assertEqual(ask(new_class(4), share(), new_class(3), share()), [[-1], [0], [0], [1, 0]])
        self.assertEqual(last(*[new_class(2)] * 5, share()), [4, 0, 0, 0, 0])
        self.assertEqual(last(*[new_class(2)] * 5, claim(4, 1, 1)), [-2])


class Claim(unittest.TestCase):
    def test_numbers_rise_from_0_in_each_class(self):
        calls = [new_class(0), new_class(1), claim(0, 1, 2), claim(1, 3, 4), claim(0, 5, 6), claim(1, 7, 8)]
        self.assertEqual(ask(*calls), [[0], [1], [0], [0], [1], [1]])

    def test_eight_claims(self):
        self.assertEqual(ask(new_class(0), *[claim(0, 1, 1)] * 8)[1:], [[number] for number in range(8)])

    def test_the_largest_numbers(self):
        calls = [new_class(0), claim(0, TOP, 1), claim(0, 1, TOP), claim(0, TOP, TOP)]
        self.assertEqual(ask(*calls), [[0], [0], [1], [2]])

    def test_no_such_class(self):
        self.assertEqual(ask(claim(0, 1, 1)), [[-2]])
        self.assertEqual(last(new_class(0), claim(1, 1, 1)), [-2])
        self.assertEqual(last(new_class(0), claim(TOP, 1, 1)), [-2])

    def test_a_or_b_is_0(self):
        for a, b in ((0, 1), (1, 0), (0, 0)):
            self.assertEqual(last(new_class(0), claim(0, a, b)), [-1])

    def test_ninth_claim(self):
        self.assertEqual(last(new_class(0), *[claim(0, 1, 1)] * 9), [-8])

    def test_eight_claims_fill_their_own_class_alone(self):
        calls = [new_class(0), new_class(0), *[claim(0, 1, 1)] * 8]
        self.assertEqual(last(*calls, claim(1, 1, 1)), [0])

    def test_no_such_class_is_told_first(self):
        full = [new_class(0), *[claim(0, 1, 1)] * 8]
        self.assertEqual(last(*full, claim(1, 0, 1)), [-2])
        self.assertEqual(last(*full, claim(1, 1, 0)), [-2])
        self.assertEqual(last(*full, claim(1, 1, 1)), [-2])

    def test_0_is_told_before_ninth_claim(self):
        full = [new_class(0), *[claim(0, 1, 1)] * 8]
        self.assertEqual(last(*full, claim(0, 0, 1)), [-1])
        self.assertEqual(last(*full, claim(0, 1, 0)), [-1])

    def test_all_is_as_it_was_after_a_refusal(self):
        before = [new_class(0), claim(0, 1, 1), claim(0, 2, 1), there(3, 1)]
        for refused in (claim(1, 9, 1), claim(0, 0, 1), claim(0, 9, 0)):
            self.assertEqual(last(*before, refused, share()), last(*before, share()))
            self.assertEqual(last(*before, refused, claim(0, 1, 1)), [2])

    def test_all_is_as_it_was_after_a_ninth_claim(self):
        full = [new_class(1), *[claim(0, 1, 1)] * 8, there(8, 1)]
        self.assertEqual(last(*full, claim(0, 1, 1), share()), [1, 8] + [1, 1] * 8)


class There(unittest.TestCase):
    def setUp(self):
        self.one_claim = [new_class(0), claim(0, 10, 1)]

    def test_answers_0(self):
        self.assertEqual(ask(there(3, 4)), [[0]])
        self.assertEqual(ask(there(TOP, 1)), [[0]])

    def test_b_is_0(self):
        self.assertEqual(ask(there(1, 0)), [[-1]])
        self.assertEqual(ask(there(0, 0)), [[-1]])

    def test_a_is_0(self):
        self.assertEqual(ask(there(0, 5)), [[0]])
        self.assertEqual(last(*self.one_claim, there(3, 1), there(0, 5), share()), [1, 1, 0, 1])

    def test_later_one_in_the_place_of_an_earlier(self):
        self.assertEqual(last(*self.one_claim, there(7, 1), there(3, 2), share()), [1, 1, 3, 2])
        self.assertEqual(last(*self.one_claim, there(3, 2), there(7, 1), share()), [1, 1, 7, 1])

    def test_all_is_as_it_was_after_a_refusal(self):
        self.assertEqual(last(*self.one_claim, there(7, 3), there(9, 0), share()), [1, 1, 7, 3])

    def test_may_be_told_ahead_of_the_classes(self):
        self.assertEqual(last(there(7, 3), *self.one_claim, share()), [1, 1, 7, 3])


if __name__ == "__main__":
    unittest.main()
