"""share: what it answers, class by class."""

import unittest
from fractions import Fraction
from math import gcd

from helper import class_calls, claim, last, new_class, share, shares_of, there


def fractions(*numbers):
    return [Fraction(number) for number in numbers]


class Form(unittest.TestCase):
    def test_no_classes(self):
        self.assertEqual(last(share()), [0])
        self.assertEqual(last(there(5, 1), share()), [0])

    def test_class_without_claims(self):
        for rule in range(4):
            self.assertEqual(last(new_class(rule), share()), [1, 0])
            self.assertEqual(last(new_class(rule), there(5, 1), share()), [1, 0])

    def test_class_without_claims_takes_nothing(self):
        for rule in range(4):
            calls = [new_class(rule), new_class(0), new_class(rule), claim(1, 2, 1), there(1, 1), share()]
            self.assertEqual(last(*calls), [3, 0, 1, 1, 1, 0])

    def test_nothing_there_is_0_and_1(self):
        for rule in range(4):
            calls = [new_class(rule), claim(0, 3, 7), claim(0, 5, 1)]
            self.assertEqual(last(*calls, share()), [1, 2, 0, 1, 0, 1])
            self.assertEqual(last(*calls, there(0, 9), share()), [1, 2, 0, 1, 0, 1])

    def test_lowest_terms(self):
        for rule in range(4):
            calls = [new_class(rule), claim(0, 6, 4), claim(0, 1000000, 1000000), there(1000000, 100)]
            self.assertEqual(last(*calls, share()), [1, 2, 3, 2, 1, 1])
        self.assertEqual(last(new_class(0), claim(0, 9, 3), there(10, 8), share()), [1, 1, 5, 4])

    def test_sharing_changes_nothing(self):
        for rule in range(4):
            calls = [new_class(rule), claim(0, 3, 1), claim(0, 5, 1), there(4, 1)]
            self.assertEqual(last(*calls, share(), share(), share()), last(*calls, share()))

    def test_a_claim_behind_a_share_counts_in_the_next(self):
        calls = [new_class(0), claim(0, 1, 1), there(1, 1), share(), claim(0, 3, 1), share()]
        self.assertEqual(last(*calls), [1, 2, 1, 4, 3, 4])

    def test_shares_stand_in_the_claims_order(self):
        for rule in range(4):
            forth = shares_of([(rule, fractions(5, 1, 3))], Fraction(4))[0]
            back = shares_of([(rule, fractions(3, 1, 5))], Fraction(4))[0]
            self.assertEqual(forth, back[::-1])
            self.assertGreater(forth[0], forth[1])


class ClassByClass(unittest.TestCase):
    def test_less_just_as_much_and_more_than_is_claimed(self):
        for rule in range(4):
            classes = [(rule, fractions(2, 4))]
            self.assertEqual(sum(shares_of(classes, Fraction(5))[0]), 5)
            self.assertEqual(shares_of(classes, Fraction(6)), [fractions(2, 4)])
            self.assertEqual(shares_of(classes, Fraction(7)), [fractions(2, 4)])
            self.assertEqual(shares_of(classes, Fraction(1000000)), [fractions(2, 4)])

    def test_a_hair_less_and_a_hair_more(self):
        hair = Fraction(1, 999983)
        for rule in range(4):
            classes = [(rule, [Fraction(1, 3)]), (rule, [Fraction(1, 2)])]
            just = Fraction(1, 3)
            self.assertEqual(shares_of(classes, Fraction(1, 3)), [[just], [0]])
            self.assertEqual(shares_of([(rule, [hair]), (rule, [hair])], hair), [[hair], [0]])
            self.assertEqual(shares_of([(rule, [1 - hair]), (rule, [hair])], Fraction(1)), [[1 - hair], [hair]])
            self.assertEqual(shares_of([(rule, [Fraction(1)]), (rule, [hair])], 1 - hair), [[1 - hair], [0]])

    def test_first_takes_all(self):
        for rule in range(4):
            classes = [(rule, fractions(3, 3)), (rule, fractions(1)), (rule, fractions(2, 2))]
            self.assertEqual(shares_of(classes, Fraction(4)), [fractions(2, 2), fractions(0), fractions(0, 0)])
            self.assertEqual(shares_of(classes, Fraction(6)), [fractions(3, 3), fractions(0), fractions(0, 0)])

    def test_middle_has_some(self):
        for rule in range(4):
            classes = [(0, fractions(1, 2)), (rule, fractions(4, 4)), (1, fractions(5)), (2, fractions(6, 7))]
            expected = [fractions(1, 2), fractions("5/2", "5/2"), fractions(0), fractions(0, 0)]
            self.assertEqual(shares_of(classes, Fraction(8)), expected)

    def test_a_different_rule_in_each_class(self):
        claims = fractions(100, 200, 300)
        shares = {
            0: fractions(50, 100, 150),
            1: fractions(100, 100, 100),
            2: fractions(0, 100, 200),
            3: fractions(50, 100, 150),
        }
        for first in range(4):
            for second in range(4):
                classes = [(first, claims), (second, claims), (0, claims)]
                self.assertEqual(shares_of(classes, Fraction(900)), [claims, shares[second], fractions(0, 0, 0)])

    def test_all_have_all_and_some_is_left(self):
        classes = [(rule, fractions(rule + 1, "1/3")) for rule in range(4)]
        self.assertEqual(shares_of(classes, Fraction(100)), [claims for _, claims in classes])

    def test_the_last_class_has_what_is_left(self):
        classes = [(rule, fractions(1, 1)) for rule in range(4)]
        self.assertEqual(shares_of(classes, Fraction(7)), [fractions(1, 1)] * 3 + [fractions("1/2", "1/2")])

    def test_four_classes_of_eight_claims(self):
        classes = [(rule, fractions(*range(1, 9))) for rule in range(4)]
        shares = shares_of(classes, Fraction(36 * 3 + 18))
        self.assertEqual(shares[:3], [fractions(*range(1, 9))] * 3)
        self.assertEqual(shares[3], [Fraction(number, 2) for number in range(1, 9)])


class AnySize(unittest.TestCase):
    # Claims without a common divisor below the line, so that what is answered grows far beyond them.
    BELOW = [999983 - 2 * step for step in range(200) if all(gcd(999983 - 2 * step, 999983 - 2 * other) == 1
                                                             for other in range(step))][:32]

    def big_classes(self, rules):
        claims = [Fraction(1000000 - at, below) for at, below in enumerate(self.BELOW)]
        return [(rule, claims[8 * k:8 * k + 8]) for k, rule in enumerate(rules)]

    def test_32_large_claims(self):
        self.assertEqual(len(self.BELOW), 32)
        for rule in range(4):
            classes = self.big_classes([rule] * 4)
            amount = Fraction(999999, 34483)
            shares = shares_of(classes, amount)
            has = amount - sum(sum(claims) for _, claims in classes[:3])
            self.assertTrue(0 < has < sum(classes[3][1]))
            self.assertEqual(shares[:3], [claims for _, claims in classes[:3]])
            self.assertEqual(sum(shares[3]), has)

    def test_large_numbers_are_in_lowest_terms(self):
        for rule in range(4):
            classes = self.big_classes([rule] * 4)
            numbers = last(*class_calls(classes), there(999999, 34483), share())
            shares = numbers[-16:]
            for above, below in zip(shares[::2], shares[1::2]):
                self.assertEqual(gcd(above, below), 1)
            self.assertGreater(max(shares), 10 ** 100)

    def test_large_by_parts(self):
        (_, claims), = self.big_classes([0])
        amount = Fraction(999999, 999998)
        self.assertEqual(shares_of([(0, claims)], amount)[0], [one * amount / sum(claims) for one in claims])


if __name__ == "__main__":
    unittest.main()
