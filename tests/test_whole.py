"""whole: the shares in whole units, and what isn't whole refused."""

import unittest
from fractions import Fraction
from itertools import product

from helper import ask, claim, desk_calls, drop, last, new_class, share, shares_of, there, units_of, whole

TOP = 1000000


class Refusals(unittest.TestCase):
    def check_refused(self, classes, amount):
        self.assertEqual(last(*desk_calls(classes, amount), whole()), [-6], (classes, amount))

    def test_what_is_there_is_not_whole(self):
        for rule in range(4):
            for amount in ("1/2", "7/2", "100001/100", "1/1000000"):
                self.check_refused([(rule, (1, 2))], amount)

    def test_what_is_there_is_not_whole_and_nobody_claims(self):
        self.assertEqual(last(there(1, 2), whole()), [-6])
        self.check_refused([(0, ())], "3/2")

    def test_a_claim_of_the_first_class_is_not_whole(self):
        for rule in range(4):
            self.check_refused([(rule, ("1/2",))], 1)
            self.check_refused([(rule, ("5/2", 1, 2))], 3)
            self.check_refused([(rule, (1, "5/2", 2))], 3)
            self.check_refused([(rule, (1, 2, "5/2"))], 3)
            self.check_refused([(rule, (1, "5/2")), (rule, (1,))], 3)

    def test_a_claim_of_a_later_class_is_not_whole(self):
        for rule in range(4):
            self.check_refused([(rule, (1,)), (rule, (1, "3/2"))], 5)
            self.check_refused([(rule, (1,)), (rule, ()), (rule, (1,)), (rule, ("3/2",))], 5)

    def test_a_claim_of_a_class_that_has_nothing_is_not_whole(self):
        for rule in range(4):
            self.check_refused([(rule, (3,)), (rule, ("1/2",))], 2)
            self.check_refused([(rule, (3,)), (rule, ("1/2",))], 3)
            self.check_refused([(rule, ("1/2",))], 0)

    def test_claims_that_are_whole_only_together(self):
        self.check_refused([(0, ("1/2", "1/2"))], 1)
        self.check_refused([(1, ("1/2",)), (1, ("1/2",))], 1)

    def test_neither_is_whole(self):
        self.check_refused([(0, ("1/2",))], "1/2")

    def test_all_is_as_it_was_after_a_refusal(self):
        for rule in range(4):
            for classes, amount in (([(rule, (1, "5/2")), (rule, (2,))], 4), ([(rule, (3, 5))], "7/2")):
                calls = desk_calls(classes, amount)
                before, refused, after = ask(*calls, share(), whole(), share())[-3:]
                self.assertEqual(refused, [-6])
                self.assertEqual(before, after)
                self.assertEqual(last(*calls, whole(), claim(0, 1, 1)), [2])

    def test_whole_once_it_is_whole(self):
        calls = [new_class(0), claim(0, 2, 1), there(1, 2), whole(), there(1, 1), whole()]
        self.assertEqual(ask(*calls)[-3:], [[-6], [0], [1, 1, 1]])
        calls = [new_class(0), claim(0, 2, 1), claim(0, 1, 2), there(1, 1), whole(), drop(0, 1), whole()]
        self.assertEqual(ask(*calls)[-3:], [[-6], [1], [1, 1, 1]])

    def test_whole_though_below_the_line_is_more_than_1(self):
        for rule in range(4):
            calls = [new_class(rule), claim(0, 6, 3), claim(0, TOP, TOP), there(10, 5), whole()]
            self.assertEqual(sum(last(*calls)[2:]), 2)
            calls = [new_class(rule), claim(0, 6, 3), claim(0, TOP, TOP), there(15, 5), whole()]
            self.assertEqual(last(*calls), [1, 2, 2, 1])
            self.assertEqual(last(new_class(rule), claim(0, 6, 4), there(3, 3), whole()), [-6])
            self.assertEqual(last(new_class(rule), claim(0, 4, 4), there(6, 4), whole()), [-6])
            self.assertEqual(last(new_class(rule), claim(0, 4, 2), there(0, 7), whole()), [1, 1, 0])


class Form(unittest.TestCase):
    def test_no_classes(self):
        self.assertEqual(last(whole()), [0])
        self.assertEqual(last(there(5, 1), whole()), [0])

    def test_class_without_claims(self):
        for rule in range(4):
            self.assertEqual(last(new_class(rule), whole()), [1, 0])
            self.assertEqual(last(new_class(rule), there(5, 1), whole()), [1, 0])
            self.assertEqual(last(*desk_calls([(rule, ()), (rule, (4,)), (rule, ())], 3), whole()), [3, 0, 1, 3, 0])

    def test_nothing_there(self):
        for rule in range(4):
            self.assertEqual(last(new_class(rule), claim(0, 2, 1), claim(0, 3, 1), whole()), [1, 2, 0, 0])
            self.assertEqual(last(*desk_calls([(rule, (2, 3)), (rule, (1,))], 0), whole()), [2, 2, 0, 0, 1, 0])

    def test_share_answers_afterwards_as_before(self):
        for rule in range(4):
            calls = desk_calls([(0, (1,)), (rule, (3, 5, 9)), (1, (2,))], 6)
            before, first, after, second = ask(*calls, share(), whole(), share(), whole())[-4:]
            self.assertEqual(before, after)
            self.assertEqual(first, second)
            self.assertEqual(last(*calls, whole(), share()), before)


class Rounding(unittest.TestCase):
    def check(self, rule, claims, rows):
        for amount, *units in rows:
            with self.subTest(rule=rule, claims=claims, amount=amount):
                self.assertEqual(units_of([(rule, claims)], amount), [units])

    def test_shares_that_are_whole_already(self):
        self.check(0, (100, 200, 300), [(150, 25, 50, 75), (600, 100, 200, 300), (700, 100, 200, 300)])
        self.check(1, (100, 200, 300), [(90, 30, 30, 30), (400, 100, 150, 150), (600, 100, 200, 300)])
        self.check(2, (100, 200, 300), [(200, 0, 50, 150), (510, 70, 170, 270), (600, 100, 200, 300)])
        self.check(3, (100, 200, 300), [(200, 50, 75, 75), (400, 50, 125, 225), (600, 100, 200, 300)])

    def test_shares_that_lose_different_amounts(self):
        self.check(0, (1, 2, 3), [(4, 1, 1, 2)])
        self.check(0, (3, 2, 1), [(4, 2, 1, 1)])
        self.check(0, (1, 4), [(1, 0, 1), (2, 0, 2), (3, 1, 2), (4, 1, 3)])
        self.check(0, (4, 1), [(1, 1, 0), (2, 2, 0), (3, 2, 1), (4, 3, 1)])

    def test_shares_that_lose_as_much(self):
        for rule in range(4):
            self.check(rule, (1, 1, 1), [(1, 1, 0, 0), (2, 1, 1, 0)])
            self.check(rule, (5, 5), [(1, 1, 0), (3, 2, 1), (9, 5, 4)])
        self.check(1, (100, 200, 300), [(301, 100, 101, 100)])
        self.check(1, (300, 100, 200), [(301, 101, 100, 100)])
        self.check(2, (100, 200, 300), [(101, 0, 1, 100)])
        self.check(2, (300, 200, 100), [(101, 101, 0, 0)])
        self.check(3, (100, 200, 300), [(251, 50, 100, 101), (201, 50, 76, 75), (401, 50, 126, 225)])

    def test_several_units_to_hand_out(self):
        self.check(0, (1, 2, 4), [(5, 1, 1, 3)])
        self.check(0, (4, 2, 1), [(5, 3, 1, 1)])
        self.check(0, (5, 5, 2), [(3, 1, 1, 1), (7, 3, 3, 1), (9, 4, 4, 1), (11, 5, 4, 2)])
        self.check(1, (1, 5, 5, 5), [(9, 1, 3, 3, 2)])
        self.check(2, (2, 3, 4), [(4, 1, 1, 2), (5, 1, 2, 2)])
        self.check(3, (100, 200, 300), [(100, 34, 33, 33), (101, 34, 34, 33), (500, 67, 167, 266)])

    def test_seven_units_for_eight_shares(self):
        for rule in range(4):
            self.check(rule, (10,) * 8, [(1, 1, *[0] * 7), (7, *[1] * 7, 0), (12, *[2] * 4, *[1] * 4)])
            self.check(rule, (10,) * 8, [(79, *[10] * 7, 9)])
            self.check(rule, (TOP,) * 8, [(999999, *[125000] * 7, 124999)])

    def test_as_each_two_would_agree_at_the_halves(self):
        self.check(3, (1, 3), [(0, 0, 0), (1, 1, 0), (2, 1, 1), (3, 1, 2), (4, 1, 3)])
        self.check(3, (3, 1), [(1, 1, 0), (2, 2, 0), (3, 3, 0)])
        self.check(3, (1, 1, 1), [(1, 1, 0, 0), (2, 1, 1, 0)])

    def test_one_unit_more_there_may_hand_the_units_to_others(self):
        self.check(0, (6, 6, 2), [(10, 4, 4, 2), (11, 5, 5, 1)])

    def test_each_class_by_itself(self):
        for rule in range(4):
            classes = [(rule, (1, 1)), (rule, (1, 1, 1)), (rule, (3,))]
            self.assertEqual(units_of(classes, 1), [[1, 0], [0, 0, 0], [0]])
            self.assertEqual(units_of(classes, 2), [[1, 1], [0, 0, 0], [0]])
            self.assertEqual(units_of(classes, 3), [[1, 1], [1, 0, 0], [0]])
            self.assertEqual(units_of(classes, 4), [[1, 1], [1, 1, 0], [0]])
            self.assertEqual(units_of(classes, 7), [[1, 1], [1, 1, 1], [2]])
            self.assertEqual(units_of(classes, 9), [[1, 1], [1, 1, 1], [3]])

    def test_a_different_rule_in_each_class(self):
        claims = (100, 200, 300)
        units = {0: [50, 100, 151], 1: [100, 101, 100], 2: [1, 100, 200], 3: [50, 100, 151]}
        for rule in range(4):
            classes = [(3 - rule, claims), (rule, claims), (0, claims)]
            self.assertEqual(units_of(classes, 901), [list(claims), units[rule], [0, 0, 0]])


def rounded(shares):
    """The rounding as the words tell it, one unit at a time."""
    units = [got.numerator // got.denominator for got in shares]
    losses = [got - unit for got, unit in zip(shares, units)]
    while sum(units) < sum(shares):
        place = losses.index(max(losses))
        units[place] += 1
        losses[place] = Fraction(-1)
    return units


class Everywhere(unittest.TestCase):
    def cases(self):
        for count in (1, 2, 3):
            for claims in product((1, 2, 3, 5), repeat=count):
                for amount in range(sum(claims) + 2):
                    yield claims, amount
        large = (999983, 999979, 999961, 999959, 999953, 999931, 999917, 999907)
        for claims in (large, (7, 1, 900001, 7, 13, 5, 2, 1)):
            for amount in (1, 5, 17, 6789, 500007, 999999, TOP):
                yield claims, amount

    def test_rounded_as_the_words_tell(self):
        for rule in range(4):
            for claims, amount in self.cases():
                shares = shares_of([(rule, claims)], amount)[0]
                units = units_of([(rule, claims)], amount)[0]
                self.assertEqual(units, rounded(shares), (rule, claims, amount))

    def test_all_is_shared_and_nobody_gets_more_than_claimed(self):
        for rule in range(4):
            for claims, amount in self.cases():
                units = units_of([(rule, claims)], amount)[0]
                self.assertEqual(sum(units), min(amount, sum(claims)), (rule, claims, amount))
                self.assertTrue(all(0 <= got <= one for got, one in zip(units, claims)), (rule, claims, amount))


if __name__ == "__main__":
    unittest.main()
