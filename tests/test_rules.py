"""The four rules, by written examples and by what each is to bring about."""

import unittest
from fractions import Fraction
from itertools import combinations, product

from helper import class_shares


def fractions(*numbers):
    return [Fraction(number) for number in numbers]


class Examples(unittest.TestCase):
    def check(self, rule, claims, rows):
        for amount, *shares in rows:
            with self.subTest(rule=rule, claims=claims, amount=amount):
                self.assertEqual(class_shares(rule, claims, amount), fractions(*shares))

    def test_one_claim_has_all(self):
        for rule in range(4):
            self.check(rule, (4,), [(0, 0), (1, 1), (2, 2), (3, 3), (4, 4), (5, 4)])

    def test_equal_claims(self):
        for rule in range(4):
            self.check(rule, (2, 2, 2), [(0, 0, 0, 0), (1, "1/3", "1/3", "1/3"), (3, 1, 1, 1),
                                         (4, "4/3", "4/3", "4/3"), (6, 2, 2, 2), (7, 2, 2, 2)])

    def test_by_parts(self):
        self.check(0, (1, 2, 3), [(0, 0, 0, 0), (1, "1/6", "1/3", "1/2"), (3, "1/2", 1, "3/2"),
                                  (5, "5/6", "5/3", "5/2"), (6, 1, 2, 3)])
        self.check(0, ("1/2", "1/3"), [("1/6", "1/10", "1/15")])

    def test_equal_gains_below_at_and_above_some(self):
        self.check(1, (100, 200, 300), [
            (0, 0, 0, 0),
            (90, 30, 30, 30),
            (300, 100, 100, 100),
            (301, 100, "201/2", "201/2"),
            (400, 100, 150, 150),
            (500, 100, 200, 200),
            (501, 100, 200, 201),
            (599, 100, 200, 299),
            (600, 100, 200, 300),
            (601, 100, 200, 300),
        ])
        self.check(1, (3, 1, 2, 1), [(4, 1, 1, 1, 1), (5, "3/2", 1, "3/2", 1), (6, 2, 1, 2, 1)])

    def test_equal_losses_below_at_and_above_some(self):
        self.check(2, (100, 200, 300), [
            (0, 0, 0, 0),
            (1, 0, 0, 1),
            (99, 0, 0, 99),
            (100, 0, 0, 100),
            (101, 0, "1/2", "201/2"),
            (200, 0, 50, 150),
            (300, 0, 100, 200),
            (303, 1, 101, 201),
            (510, 70, 170, 270),
            (600, 100, 200, 300),
            (601, 100, 200, 300),
        ])

    def test_as_each_two_would_agree(self):
        self.check(3, (100, 200, 300), [
            (0, 0, 0, 0),
            (100, "100/3", "100/3", "100/3"),
            (150, 50, 50, 50),
            (200, 50, 75, 75),
            (250, 50, 100, 100),
            (251, 50, 100, 101),
            (299, 50, 100, 149),
            (300, 50, 100, 150),
            (301, 50, 100, 151),
            (350, 50, 100, 200),
            (400, 50, 125, 225),
            (450, 50, 150, 250),
            (500, "200/3", "500/3", "800/3"),
            (600, 100, 200, 300),
            (601, 100, 200, 300),
        ])

    def test_two_with_one_garment(self):
        self.check(3, (1, "1/2"), [(1, "3/4", "1/4"), ("1/2", "1/4", "1/4"), ("3/4", "1/2", "1/4")])

    def test_half_of_unequal_fractions(self):
        half = Fraction(5, 12)
        hair = Fraction(1, 1000)
        self.check(3, ("1/2", "1/3"), [(half, "1/4", "1/6"), (half - hair, Fraction(1, 4) - hair, "1/6"),
                                       (half + hair, Fraction(1, 4) + hair, "1/6")])

    def test_claims_of_nearly_one_size(self):
        small, middle = Fraction(999998, 999999), Fraction(999999, 1000000)
        rest = Fraction(999999, 500000)
        self.assertTrue(small < middle < 1)
        self.check(1, (middle, 1, small), [(2, "2/3", "2/3", "2/3")])
        self.check(1, (1, small), [(rest, rest - small, small)])
        self.check(1, (middle, small), [(rest, middle, small)])


def lists_of_claims():
    """Small lists of claims, some equal and some not, in every order."""
    sizes = fractions("1/2", 1, "5/3", 3)
    for count in (1, 2, 3):
        yield from product(sizes, repeat=count)
    yield tuple(fractions(4, "1/7", 2, 2, "9/2", "3/5", 1, 8))


def amounts_for(claims):
    """Amounts up to all the claims: even steps, and those at which a level meets a claim or its half."""
    together = sum(claims)
    amounts = [together * step / 6 for step in range(7)]
    for level in list(claims) + [one / 2 for one in claims]:
        met = sum(min(one, level) for one in claims)
        met_half = sum(min(one / 2, level) for one in claims)
        amounts.extend([met, together - met, met_half, together - met_half])
    return sorted(set(amounts))


def cases(rule):
    for claims in lists_of_claims():
        for amount in amounts_for(claims):
            if amount.numerator <= 1000000 and amount.denominator <= 1000000:
                yield claims, amount, class_shares(rule, claims, amount)


def agreed_by_two(first, second, amount):
    """What the first gets: what the other doesn't claim, and half of the rest."""
    conceded = max(amount - second, 0)
    to_other = max(amount - first, 0)
    return conceded + (amount - conceded - to_other) / 2


class Everywhere(unittest.TestCase):
    def test_all_is_shared_and_nobody_gets_more_than_claimed(self):
        for rule in range(4):
            for claims, amount, shares in cases(rule):
                self.assertEqual(sum(shares), amount, (rule, claims))
                self.assertTrue(all(0 <= got <= one for got, one in zip(shares, claims)), (rule, claims, amount))

    def test_more_there_is_never_less_for_anybody(self):
        for rule in range(4):
            claims_before, shares_before = None, None
            for claims, amount, shares in cases(rule):
                if claims == claims_before:
                    self.assertTrue(all(now >= then for now, then in zip(shares, shares_before)),
                                    (rule, claims, amount))
                claims_before, shares_before = claims, shares

    def test_some_who_share_again_get_the_same(self):
        for rule in range(4):
            for claims, amount, shares in cases(rule):
                for some in combinations(range(len(claims)), min(2, len(claims))):
                    got = [shares[i] for i in some]
                    again = class_shares(rule, [claims[i] for i in some], sum(got))
                    self.assertEqual(again, got, (rule, claims, amount, some))

    def test_by_parts(self):
        for claims, amount, shares in cases(0):
            self.assertEqual(shares, [one * amount / sum(claims) for one in claims])

    def test_equal_gains(self):
        for claims, amount, shares in cases(1):
            level = max(shares)
            for got, one in zip(shares, claims):
                self.assertEqual(got, min(one, level), (claims, amount))

    def test_equal_losses(self):
        for claims, amount, shares in cases(2):
            losses = [one - got for got, one in zip(shares, claims)]
            for loss, one in zip(losses, claims):
                self.assertEqual(loss, min(one, max(losses)), (claims, amount))

    def test_as_each_two_would_agree(self):
        for claims, amount, shares in cases(3):
            for i, j in combinations(range(len(claims)), 2):
                agreed = agreed_by_two(claims[i], claims[j], shares[i] + shares[j])
                self.assertEqual(shares[i], agreed, (claims, amount, i, j))


if __name__ == "__main__":
    unittest.main()
