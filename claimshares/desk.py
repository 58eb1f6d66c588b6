"""The desk: the classes with their claims, what's there, and the calls about them.

Each call answers a list of whole numbers; a refusal is one number below 0.
"""

from claimshares.amounts import ZERO, lesser, lowest, minus, together
from claimshares.rules import shares_by_rule

LAST_RULE = 3
MOST_CLASSES = 4
MOST_CLAIMS = 8

WRONG_NUMBER = -1
NO_SUCH_CLASS = -2
FULL = -8


class ClaimClass:
    def __init__(self, rule):
        self.rule = rule
        self.claims = []


class Desk:
    def __init__(self):
        self.classes = []
        self.stock = ZERO

    def new_class(self, rule):
        if rule > LAST_RULE:
            return [WRONG_NUMBER]
        if len(self.classes) >= MOST_CLASSES:
            return [FULL]
        self.classes.append(ClaimClass(rule))
        return [len(self.classes) - 1]

    def claim(self, k, a, b):
        if k >= len(self.classes):
            return [NO_SUCH_CLASS]
        if a == 0 or b == 0:
            return [WRONG_NUMBER]
        claims = self.classes[k].claims
        if len(claims) >= MOST_CLAIMS:
            return [FULL]
        claims.append(lowest(a, b))
        return [len(claims) - 1]

    def there(self, a, b):
        if b == 0:
            return [WRONG_NUMBER]
        self.stock = lowest(a, b)
        return [0]

    def class_shares(self):
        left = self.stock
        result = []
        for one in self.classes:
            has = lesser(together(one.claims), left)
            left = minus(left, has)
            result.append(shares_by_rule(one.rule, one.claims, has))
        return result

    def share(self):
        numbers = [len(self.classes)]
        for shares in self.class_shares():
            numbers.append(len(shares))
            for amount in shares:
                numbers.extend([amount[0], amount[1]])
        return numbers
