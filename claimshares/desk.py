"""The desk: the classes with their claims, what's there, and the calls about them.

Each call answers a list of whole numbers; a refusal is one number below 0.
"""

from claimshares.amounts import ZERO, is_whole, lesser, lowest, minus, together
from claimshares.rules import shares_by_rule
from claimshares.units import in_whole_units

LAST_RULE = 3
MOST_CLASSES = 4
MOST_CLAIMS = 8

WRONG_NUMBER = -1
NONE_SUCH = -2
NOT_WHOLE = -6
FULL = -8


def told(amounts):
    numbers = [len(amounts)]
    for amount in amounts:
        numbers.extend([amount[0], amount[1]])
    return numbers


def rise_below(numbers, limit):
    least = 0
    for number in numbers:
        if number < least or number >= limit:
            return False
        least = number + 1
    return True


class ClaimClass:
    def __init__(self, rule):
        self.rule = rule
        self.claims = []


class Desk:
    def __init__(self):
        self.classes = []
        self.stock = ZERO

    def new_class(self, rule):
        if rule > LAST_RULE:
            return [WRONG_NUMBER]
        if len(self.classes) >= MOST_CLASSES:
            return [FULL]
        self.classes.append(ClaimClass(rule))
        return [len(self.classes) - 1]

    def claim(self, k, a, b):
        if k >= len(self.classes):
            return [NONE_SUCH]
        if a == 0 or b == 0:
            return [WRONG_NUMBER]
        claims = self.classes[k].claims
        if len(claims) >= MOST_CLAIMS:
            return [FULL]
        claims.append(lowest(a, b))
        return [len(claims) - 1]

    def there(self, a, b):
        if b == 0:
            return [WRONG_NUMBER]
        self.stock = lowest(a, b)
        return [0]

    def class_shares(self):
        left = self.stock
        result = []
        for one in self.classes:
            has = lesser(together(one.claims), left)
            left = minus(left, has)
            result.append(shares_by_rule(one.rule, one.claims, has))
        return result

    def share(self):
        numbers = [len(self.classes)]
        for shares in self.class_shares():
            numbers.extend(told(shares))
        return numbers

    def all_is_whole(self):
        if not is_whole(self.stock):
            return False
        for one in self.classes:
            for amount in one.claims:
                if not is_whole(amount):
                    return False
        return True

    def whole(self):
        if not self.all_is_whole():
            return [NOT_WHOLE]
        numbers = [len(self.classes)]
        for shares in self.class_shares():
            numbers.append(len(shares))
            numbers.extend(in_whole_units(shares))
        return numbers

    def again(self, k, places):
        if k >= len(self.classes):
            return [NONE_SUCH]
        one = self.classes[k]
        if not rise_below(places, len(one.claims)):
            return [WRONG_NUMBER]
        shares = self.class_shares()[k]
        has = together([shares[place] for place in places])
        claims = [one.claims[place] for place in places]
        return told(shares_by_rule(one.rule, claims, has))

    def drop(self, k, i):
        if k >= len(self.classes):
            return [NONE_SUCH]
        claims = self.classes[k].claims
        if i >= len(claims):
            return [NONE_SUCH]
        claims.pop(i)
        return [len(claims)]
