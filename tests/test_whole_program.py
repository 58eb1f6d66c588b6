"""The seven calls together: mixed in one list, and what is promised over the whole program."""

import random
import unittest
from collections import Counter
from fractions import Fraction
from itertools import combinations, product

from claimshares.sharing import answers
from helper import (again, again_of, ask, claim, drop, joined, last, new_class, share, shares_of, split, there,
                    units_of, whole)

TOP = 1000000


def levelled(claims, has):
    """Equal gains: the one level at which the claims, none above it, come to what there is."""
    order = sorted(claims)
    for paid in range(len(order)):
        level = (has - sum(order[:paid])) / Fraction(len(order) - paid)
        if order[paid] >= level:
            return [min(one, level) for one in claims]
    return list(claims)


def shared(rule, claims, has):
    missing = sum(claims) - has
    halves = [one / 2 for one in claims]
    if rule == 0:
        return [one * has / sum(claims) for one in claims]
    if rule == 1:
        return levelled(claims, has)
    if rule == 2:
        return [one - lost for one, lost in zip(claims, levelled(claims, missing))]
    if has <= sum(halves):
        return levelled(halves, has)
    return [one - lost for one, lost in zip(claims, levelled(halves, missing))]


def in_units(shares):
    units = [int(got) for got in shares]
    order = sorted((unit - got, i) for i, (got, unit) in enumerate(zip(shares, units)))
    for _, i in order[:int(sum(shares)) - sum(units)]:
        units[i] += 1
    return units


class Model:
    """The document's words once more, in Python's own fractions."""

    def __init__(self):
        self.classes = []
        self.stock = Fraction(0)

    def shares(self):
        result = []
        left = self.stock
        for rule, claims in self.classes:
            has = min(left, sum(claims))
            left -= has
            result.append(shared(rule, claims, has))
        return result

    def pairs(self, amounts):
        return [len(amounts), *[part for one in amounts for part in one.as_integer_ratio()]]

    def answer(self, call):
        methods = (self.new_class, self.claim, self.there, self.share, self.whole, self.again, self.drop)
        return methods[call[0]](*call[1:])

    def new_class(self, rule):
        if rule > 3:
            return [-1]
        if len(self.classes) == 4:
            return [-8]
        self.classes.append((rule, []))
        return [len(self.classes) - 1]

    def claim(self, k, a, b):
        if k >= len(self.classes):
            return [-2]
        if 0 in (a, b):
            return [-1]
        claims = self.classes[k][1]
        if len(claims) == 8:
            return [-8]
        claims.append(Fraction(a, b))
        return [len(claims) - 1]

    def there(self, a, b):
        if b == 0:
            return [-1]
        self.stock = Fraction(a, b)
        return [0]

    def share(self):
        return [len(self.classes), *[number for row in self.shares() for number in self.pairs(row)]]

    def whole(self):
        amounts = [self.stock] + [one for _, claims in self.classes for one in claims]
        if any(one.denominator > 1 for one in amounts):
            return [-6]
        return [len(self.classes), *[number for row in self.shares() for number in (len(row), *in_units(row))]]

    def again(self, k, count, *told):
        if k >= len(self.classes):
            return [-2]
        rule, claims = self.classes[k]
        if list(told) != sorted(set(told)) or max(told, default=-1) >= len(claims):
            return [-1]
        got = self.shares()[k]
        return self.pairs(shared(rule, [claims[i] for i in told], sum(got[i] for i in told)))

    def drop(self, k, i):
        if k >= len(self.classes) or i >= len(self.classes[k][1]):
            return [-2]
        rule, claims = self.classes[k]
        self.classes[k] = (rule, claims[:i] + claims[i + 1:])
        return [len(claims) - 1]


class Mixture:
    """Lists of calls, the same at each run: a seed tells all."""

    def __init__(self, seed):
        self.random = random.Random(seed)
        self.whole_only = self.random.random() < 0.5
        self.classes = self.random.choice((1, 2, 4, 5))
        self.top = self.random.choice((3, 12, 1000, TOP))
        self.weights = [3, self.random.choice((6, 14)), 3, 3, 4, 5, self.random.choice((1, 4))]

    def number(self, low, high):
        return self.random.randint(low, high)

    def fraction(self):
        if self.random.random() < 0.04:
            return [self.number(0, 1), self.number(0, 1)]
        if self.random.random() < (0.97 if self.whole_only else 0.3):
            below = self.number(1, 3)
            return [below * self.number(1, self.top // below), below]
        return [self.number(0, self.top), self.number(1, self.top)]

    def told(self):
        if self.random.random() < 0.2:
            return [self.number(0, 9) for _ in range(self.number(0, 10))]
        return sorted(self.random.sample(range(9), self.number(0, 4)))

    def call(self):
        kind = self.random.choices(range(7), self.weights)[0]
        k = self.number(0, self.classes - 1)
        if kind == 0:
            return new_class(self.number(0, 4) if self.random.random() < 0.5 else self.number(0, 3))
        if kind == 1:
            return claim(k, *self.fraction())
        if kind == 2:
            return there(*self.fraction())
        if kind == 5:
            return again(k, self.told())
        if kind == 6:
            return drop(k, self.number(0, 8 if self.random.random() < 0.3 else 1))
        return [kind]

    def calls(self):
        first = [new_class(self.number(0, 3)) for _ in range(self.number(0, min(4, self.classes)))]
        count = self.random.choice((1, 5, 20, 40, 40, 40, 40))
        return (first + [self.call() for _ in range(40)])[:count]


class Mixed(unittest.TestCase):
    def test_like_the_words_once_more(self):
        seen = Counter()
        for seed in range(1500):
            calls = Mixture(seed).calls()
            model = Model()
            expected = [model.answer(call) for call in calls]
            self.assertEqual(ask(*calls), expected, (seed, calls))
            seen.update((call[0], min(told[0], 0)) for call, told in zip(calls, expected))
        kinds = [(0, 0), (0, -1), (0, -8), (1, 0), (1, -2), (1, -1), (1, -8), (2, 0), (2, -1), (3, 0), (4, 0), (4, -6),
                 (5, 0), (5, -2), (5, -1), (6, 0), (6, -2)]
        self.assertEqual(set(seen), set(kinds))
        self.assertGreater(min(seen.values()), 30, seen)

    def all_seven(self):
        return [
            new_class(3), claim(0, 100, 1), claim(0, 400, 2), claim(0, 300, 1), new_class(0), claim(1, 7, 2),
            there(251, 1), share(), whole(), drop(1, 0), whole(), again(0, (0, 2)), drop(0, 1), share(), whole(),
            again(0, (0, 2)), again(1, ()), drop(2, 0), claim(1, 1, 1), there(401, 1), whole(), again(1, (0,)),
        ]

    def test_all_seven_calls(self):
        told = [
            [0], [0], [1], [2], [1], [0],
            [0], [2, 3, 50, 1, 100, 1, 101, 1, 1, 0, 1], [-6], [0], [2, 3, 50, 100, 101, 0], [2, 50, 1, 101, 1], [2],
            [2, 2, 50, 1, 201, 1, 0], [2, 2, 50, 201, 0],
            [-1], [0], [-2], [0], [0], [2, 2, 100, 300, 1, 1], [1, 1, 1],
        ]
        self.assertEqual(len(told), len(self.all_seven()))
        given = ask(*self.all_seven())
        for call, one, expected in zip(self.all_seven(), given, told):
            self.assertEqual(one, expected, call)
        self.assertEqual(given, told)


class Lists(unittest.TestCase):
    def forty_calls(self):
        calls = [new_class(rule) for rule in range(4)]
        calls.extend(claim(k, 100 * k + 7 * i + 1, 1) for i in range(6) for k in range(4))
        calls.extend([there(1234, 1), share(), whole(), again(3, (0, 2, 5)), drop(0, 2), share(), whole()])
        calls.extend([again(0, (1, 0)), drop(9, 9), claim(1, 1, 2), whole(), share()])
        return calls

    def test_forty_calls(self):
        calls = self.forty_calls()
        self.assertEqual(len(calls), 40)
        model = Model()
        self.assertEqual(ask(*calls), [model.answer(call) for call in calls])

    def test_the_longest_list(self):
        calls = joined(*[again(0, list(range(10)))] * 40)
        self.assertEqual(len(calls), 520)
        self.assertEqual(answers(calls), [1, -2] * 40)
        calls = joined(new_class(0), *[again(0, list(range(10)))] * 39)
        self.assertEqual(answers(calls), [1, 0] + [1, -1] * 39)

    def test_one_call(self):
        self.assertEqual(answers([4]), [1, 0])
        self.assertEqual(answers([5, 0, 0]), [1, -2])
        self.assertEqual(answers([5, 0, 2, 0, 1]), [1, -2])
        self.assertEqual(answers([6, 0, 0]), [1, -2])

    def test_how_many_numbers_and_then_these(self):
        calls = [0, 1, 1, 0, 1, 1, 1, 0, 1, 1, 2, 1, 1, 4, 5, 0, 1, 1, 5, 0, 0, 6, 0, 0, 4]
        told = [1, 0, 1, 0, 1, 1, 1, 0, 4, 1, 2, 1, 0, 3, 1, 1, 2, 1, 0, 1, 1, 3, 1, 1, 1]
        self.assertEqual(answers(calls), told)

    def test_what_was_handed_in_stays(self):
        calls = joined(*self.forty_calls())
        kept = list(calls)
        answers(calls)
        self.assertEqual(calls, kept)

    def test_second_time_is_like_the_first(self):
        calls = joined(*self.forty_calls())
        first = answers(calls)
        kept = list(first)
        first.clear()
        self.assertEqual(answers([3, 4]), [1, 0, 1, 0])
        self.assertEqual(answers(calls), kept)

    def test_a_list_of_whole_numbers(self):
        given = answers(joined(*self.forty_calls()))
        self.assertIs(type(given), list)
        self.assertEqual({type(number) for number in given}, {int})

    def test_only_a_refusal_is_below_0(self):
        for seed in range(200):
            for told in split(answers(joined(*Mixture(seed).calls()))):
                self.assertTrue(min(told) >= 0 or len(told) == 1, told)


class Promises(unittest.TestCase):
    """What the document promises over the whole program, for classes behind one another."""

    CLAIMS = ((1, 2, "7/2"), (2, 2), ("1/3", 4, 1, 1))
    WHOLE_CLAIMS = ((1, 2, 4), (2, 2), (3, 5, 1, 1))

    def cases(self, rows):
        for rules in product(range(4), repeat=2):
            yield [(rule, claims) for rule, claims in zip((*rules, rules[0]), rows)]

    def claimed(self, classes):
        return [Fraction(one) for _, claims in classes for one in claims]

    def amounts(self, classes):
        together = sum(self.claimed(classes))
        return [together * step / 12 for step in range(14)]

    def flat(self, rows):
        return [got for row in rows for got in row]

    def test_all_is_shared_as_far_as_it_is_claimed(self):
        for classes in self.cases(self.CLAIMS):
            for amount in self.amounts(classes):
                got = self.flat(shares_of(classes, amount))
                self.assertEqual(sum(got), min(amount, sum(self.claimed(classes))), (classes, amount))

    def test_nobody_gets_more_than_they_claim(self):
        for classes in self.cases(self.CLAIMS):
            for amount in self.amounts(classes):
                got = self.flat(shares_of(classes, amount))
                self.assertTrue(all(0 <= one <= top for one, top in zip(got, self.claimed(classes))), (classes, amount))

    def test_more_there_is_never_less_for_anybody(self):
        for classes in self.cases(self.CLAIMS):
            before = [Fraction(0)] * 9
            for amount in self.amounts(classes):
                got = self.flat(shares_of(classes, amount))
                self.assertTrue(all(now >= then for now, then in zip(got, before, strict=True)), (classes, amount))
                before = got

    def test_who_shares_again_gets_the_same(self):
        for classes in self.cases(self.CLAIMS):
            for amount in self.amounts(classes)[::3]:
                for k, row in enumerate(shares_of(classes, amount)):
                    for some in combinations(range(len(row)), 2):
                        got = [row[i] for i in some]
                        self.assertEqual(again_of(classes, amount, k, some), got, (classes, amount, k, some))

    def test_in_whole_units_too_all_is_shared_and_nobody_gets_more_than_they_claim(self):
        for classes in self.cases(self.WHOLE_CLAIMS):
            claimed = self.claimed(classes)
            for amount in range(int(sum(claimed)) + 2):
                got = self.flat(units_of(classes, amount))
                self.assertEqual(sum(got), min(amount, sum(claimed)), (classes, amount))
                self.assertTrue(all(0 <= one <= top for one, top in zip(got, claimed)), (classes, amount))

    def test_drop_and_claim_anew_is_like_never_dropped(self):
        for rule in range(4):
            made = [new_class(rule), claim(0, 3, 1), claim(0, 5, 2), there(4, 1)]
            self.assertEqual(last(*made, drop(0, 1), claim(0, 5, 2), share()), last(*made, share()))


if __name__ == "__main__":
    unittest.main()
