"""Calls written by name, and their answers split up, for the tests."""

from fractions import Fraction

from claimshares.sharing import answers


def new_class(rule):
    return [0, rule]


def claim(k, a, b):
    return [1, k, a, b]


def there(a, b):
    return [2, a, b]


def share():
    return [3]


def joined(*calls):
    return [number for call in calls for number in call]


def split(numbers):
    """The answers one by one, without how many numbers each has."""
    result = []
    place = 0
    while place < len(numbers):
        size = numbers[place]
        row = numbers[place + 1:place + 1 + size]
        if size < 1 or len(row) != size:
            raise AssertionError(f"answer at {place} isn't as long as told: {numbers}")
        result.append(row)
        place += 1 + size
    return result


def ask(*calls):
    """What each of the calls answers."""
    return split(answers(joined(*calls)))


def last(*calls):
    """What the last of the calls answers."""
    return ask(*calls)[-1]


def class_calls(classes):
    """The calls that make the classes: a list of (rule, claims), claims being Fractions."""
    calls = []
    for k, (rule, claims) in enumerate(classes):
        calls.append(new_class(rule))
        calls.extend(claim(k, one.numerator, one.denominator) for one in claims)
    return calls


def shares_of(classes, amount):
    """The shares as lists of Fractions, if amount is there."""
    stock = there(amount.numerator, amount.denominator)
    numbers = last(*class_calls(classes), stock, share())
    result = []
    place = 1
    for _ in range(numbers[0]):
        count = numbers[place]
        place += 1
        pairs = [(numbers[at], numbers[at + 1]) for at in range(place, place + 2 * count, 2)]
        result.append([Fraction(a, b) for a, b in pairs])
        place += 2 * count
    if place != len(numbers):
        raise AssertionError(f"too many numbers: {numbers}")
    return result


def class_shares(rule, claims, amount):
    """The shares of a class that is alone; whole numbers or Fractions."""
    return shares_of([(rule, [Fraction(one) for one in claims])], Fraction(amount))[0]
