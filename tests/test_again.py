"""again: what some claims of a class got together, shared among these alone."""

import unittest
from fractions import Fraction
from itertools import combinations

from helper import again, again_of, ask, claim, desk_calls, last, new_class, share, shares_of, there, whole

TOP = 1000000


def fractions(*numbers):
    return [Fraction(number) for number in numbers]


def some_of(count):
    """Every rising list of numbers below count."""
    return [some for size in range(count + 1) for some in combinations(range(count), size)]


class Refusals(unittest.TestCase):
    def setUp(self):
        self.three = desk_calls([(0, (1, 2, 3)), (1, ())], 4)

    def test_no_such_class(self):
        for claims in ((), (0,), (0, 1)):
            self.assertEqual(last(again(0, claims)), [-2])
            self.assertEqual(last(*self.three, again(2, claims)), [-2])
            self.assertEqual(last(*self.three, again(TOP, claims)), [-2])

    def test_numbers_that_fall(self):
        for claims in ((1, 0), (2, 1, 0), (0, 2, 1), (1, 0, 2), (2, 0)):
            self.assertEqual(last(*self.three, again(0, claims)), [-1], claims)

    def test_the_same_number_twice(self):
        for claims in ((0, 0), (2, 2), (0, 1, 1), (0, 0, 1), (0, 1, 2, 2), (0, 1, 0)):
            self.assertEqual(last(*self.three, again(0, claims)), [-1], claims)

    def test_a_number_without_a_claim(self):
        for claims in ((3,), (TOP,), (0, 3), (0, 1, 2, 3), (2, TOP), (3, 4), (7, 8)):
            self.assertEqual(last(*self.three, again(0, claims)), [-1], claims)
        self.assertEqual(last(*self.three, again(1, (0,))), [-1])

    def test_a_number_that_only_another_class_has(self):
        calls = desk_calls([(0, (1,)), (0, (1, 2, 3))], 4)
        self.assertEqual(last(*calls, again(0, (1,))), [-1])
        self.assertEqual(last(*calls, again(1, (1,)))[0], 1)

    def test_numbers_that_fall_and_a_number_without_a_claim(self):
        for claims in ((3, 0), (9, 9), (5, 4)):
            self.assertEqual(last(*self.three, again(0, claims)), [-1], claims)

    def test_no_such_class_is_told_first(self):
        for claims in ((1, 0), (0, 0), (TOP,), (9, 9)):
            self.assertEqual(last(*self.three, again(2, claims)), [-2], claims)
            self.assertEqual(last(again(0, claims)), [-2], claims)

    def test_ten_numbers(self):
        eight = desk_calls([(0, range(1, 9))], 4)
        for claims in (range(10), [0] * 10, range(9, -1, -1), range(TOP - 9, TOP + 1), [*range(8), 6, 7]):
            self.assertEqual(last(*eight, again(0, list(claims))), [-1])
            self.assertEqual(last(*eight, again(1, list(claims))), [-2])

    def test_nine_numbers(self):
        eight = desk_calls([(0, range(1, 9))], 4)
        self.assertEqual(last(*eight, again(0, list(range(9)))), [-1])
        self.assertEqual(last(*eight, again(0, [*range(8), 7])), [-1])

    def test_all_is_as_it_was_after_a_refusal(self):
        for refused, told in ((again(2, (0,)), -2), (again(0, (1, 0)), -1), (again(0, (0, 3)), -1)):
            before, number, after = ask(*self.three, share(), refused, share())[-3:]
            self.assertEqual(number, [told])
            self.assertEqual(before, after)
            self.assertEqual(last(*self.three, refused, claim(0, 1, 1)), [3])


class Form(unittest.TestCase):
    def test_no_claims_told(self):
        for rule in range(4):
            self.assertEqual(last(new_class(rule), again(0, ())), [0])
            self.assertEqual(last(new_class(rule), there(5, 1), again(0, ())), [0])
            for amount in (0, 2, 6, 9):
                self.assertEqual(last(*desk_calls([(rule, (1, 2, 3))], amount), again(0, ())), [0])

    def test_how_many_and_then_a_fraction_for_each(self):
        calls = desk_calls([(0, (1, 2, 3))], 4)
        self.assertEqual(last(*calls, again(0, (0,))), [1, 2, 3])
        self.assertEqual(last(*calls, again(0, (2,))), [1, 2, 1])
        self.assertEqual(last(*calls, again(0, (0, 1))), [2, 2, 3, 4, 3])
        self.assertEqual(last(*calls, again(0, (1, 2))), [2, 4, 3, 2, 1])
        self.assertEqual(last(*calls, again(0, (0, 1, 2))), [3, 2, 3, 4, 3, 2, 1])

    def test_lowest_terms(self):
        for rule in range(4):
            calls = [new_class(rule), claim(0, 6, 4), claim(0, TOP, TOP), there(TOP, 100)]
            self.assertEqual(last(*calls, again(0, (0, 1))), [2, 3, 2, 1, 1])
            self.assertEqual(last(*calls, there(0, 8), again(0, (0, 1))), [2, 0, 1, 0, 1])

    def test_the_call_behind_it_is_found(self):
        calls = [new_class(0), claim(0, 4, 1), there(3, 1), again(0, ()), share(), again(0, (0,)), share()]
        self.assertEqual(ask(*calls)[-4:], [[0], [1, 1, 3, 1], [1, 3, 1], [1, 1, 3, 1]])
        refused = [again(1, (3, 3, 3)), share(), again(0, [5] * 10), share(), again(0, (3,)), there(1, 1), share()]
        self.assertEqual(ask(*calls[:3], *refused)[-7:],
                         [[-2], [1, 1, 3, 1], [-1], [1, 1, 3, 1], [-1], [0], [1, 1, 1, 1]])

    def test_what_is_not_whole_does_not_matter(self):
        calls = desk_calls([(1, ("1/2", "1/3"))], "3/4")
        self.assertEqual(last(*calls, again(0, (0, 1))), [2, 5, 12, 1, 3])

    def test_by_share_and_not_in_whole_units(self):
        calls = desk_calls([(1, (1, 1, 1))], 1)
        self.assertEqual(last(*calls, whole(), again(0, (0, 1))), [2, 1, 3, 1, 3])

    def test_share_answers_afterwards_as_before(self):
        for rule in range(4):
            calls = desk_calls([(rule, (1, 4)), (rule, (2, 3, 5)), (rule, (1,))], 9)
            before, first, after, second = ask(*calls, share(), again(1, (0, 2)), share(), again(1, (0, 2)))[-4:]
            self.assertEqual(before, after)
            self.assertEqual(first, second)
            self.assertEqual(last(*calls, again(1, (1,)), claim(1, 1, 1)), [3])


class Examples(unittest.TestCase):
    def check(self, rule, amount, rows):
        classes = [(rule, (100, 200, 300))]
        for some, *shares in rows:
            with self.subTest(rule=rule, amount=amount, some=some):
                self.assertEqual(again_of(classes, amount, 0, some), fractions(*shares))

    def test_less_than_is_claimed(self):
        self.check(0, 150, [((0,), 25), ((0, 2), 25, 75), ((1, 2), 50, 75), ((0, 1, 2), 25, 50, 75)])
        self.check(1, 400, [((0,), 100), ((0, 2), 100, 150), ((1, 2), 150, 150), ((0, 1, 2), 100, 150, 150)])
        self.check(2, 200, [((0,), 0), ((0, 1), 0, 50), ((1, 2), 50, 150), ((0, 1, 2), 0, 50, 150)])
        self.check(3, 200, [((0,), 50), ((0, 2), 50, 75), ((1, 2), 75, 75), ((0, 1, 2), 50, 75, 75)])
        self.check(3, 400, [((0,), 50), ((0, 2), 50, 225), ((1, 2), 125, 225), ((0, 1, 2), 50, 125, 225)])
        self.check(3, 500, [((1,), "500/3"), ((0, 1), "200/3", "500/3")])

    def test_just_as_much_more_and_nothing(self):
        for rule in range(4):
            for amount in (600, 601, TOP):
                self.check(rule, amount, [((1,), 200), ((0, 2), 100, 300), ((0, 1, 2), 100, 200, 300)])
            self.check(rule, 0, [((1,), 0), ((0, 2), 0, 0), ((0, 1, 2), 0, 0, 0)])

    def test_behind_others_that_leave_some(self):
        for rule in range(4):
            classes = [(0, (1, 2)), (rule, (4, 4, 4)), (1, (5, 5))]
            self.assertEqual(again_of(classes, 9, 1, (0, 2)), fractions(2, 2))
            self.assertEqual(again_of(classes, 9, 0, (1,)), fractions(2))
            self.assertEqual(again_of(classes, 9, 2, (0, 1)), fractions(0, 0))
            self.assertEqual(again_of(classes, 3, 1, (0, 2)), fractions(0, 0))
            self.assertEqual(again_of(classes, 18, 1, (1, 2)), fractions(4, 4))
            self.assertEqual(again_of(classes, 18, 2, (0, 1)), fractions("3/2", "3/2"))

    def test_by_the_rule_of_the_class_that_is_told(self):
        claims = (100, 200, 300)
        shares = {0: (25, 75), 1: (50, 50), 2: (0, 125), 3: (50, 50)}
        for first in range(4):
            for rule in range(4):
                classes = [(first, claims), (rule, claims), (first, claims)]
                self.assertEqual(again_of(classes, 750, 1, (0, 2)), fractions(*shares[rule]))


class Everywhere(unittest.TestCase):
    CLAIMS = (("5/3",), (2, 2), (3, "1/2"), (1, 3, "5/3"), (4, 1, 2, 2), ("1/2", "1/3", "1/7", 1))

    def test_who_shares_again_gets_the_same(self):
        for rule in range(4):
            for claims in self.CLAIMS:
                together = sum(fractions(*claims))
                for step in range(9):
                    classes = [(1, ("1/3",)), (rule, claims), (2, (1, 2))]
                    amount = Fraction(1, 3) + together * step / 7
                    shares = shares_of(classes, amount)[1]
                    for some in some_of(len(claims)):
                        got = [shares[i] for i in some]
                        self.assertEqual(again_of(classes, amount, 1, some), got, (rule, claims, amount, some))

    def test_eight_claims(self):
        for rule in range(4):
            classes = [(rule, (4, "1/7", 2, 2, "9/2", "3/5", 1, 8))]
            for amount in (1, 5, 11, 12, 20, "156/7", 30):
                shares = shares_of(classes, amount)[0]
                self.assertEqual(again_of(classes, amount, 0, range(8)), shares)
                for some in ((7,), (0, 7), (1, 3, 4, 6), (0, 1, 2, 3, 4, 5, 6), (1, 2, 3, 4, 5, 6, 7)):
                    self.assertEqual(again_of(classes, amount, 0, some), [shares[i] for i in some])


if __name__ == "__main__":
    unittest.main()
