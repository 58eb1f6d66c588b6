"""Calls written by name, and their answers split up, for the tests."""

from fractions import Fraction

from claimshares.sharing import answers


def new_class(rule):
    return [0, rule]


def claim(k, a, b):
    return [1, k, a, b]


def there(a, b):
    return [2, a, b]


def share():
    return [3]


def whole():
    return [4]


def again(k, claims):
    return [5, k, len(claims), *claims]


def drop(k, i):
    return [6, k, i]


def joined(*calls):
    return [number for call in calls for number in call]


def split(numbers):
    """The answers one by one, without how many numbers each has."""
    result = []
    place = 0
    while place < len(numbers):
        size = numbers[place]
        row = numbers[place + 1:place + 1 + size]
        if size < 1 or len(row) != size:
            raise AssertionError(f"answer at {place} isn't as long as told: {numbers}")
        result.append(row)
        place += 1 + size
    return result


def ask(*calls):
    """What each of the calls answers."""
    return split(answers(joined(*calls)))


def last(*calls):
    """What the last of the calls answers."""
    return ask(*calls)[-1]


def class_calls(classes):
    """The calls that make the classes: a list of (rule, claims), claims being Fractions."""
    calls = []
    for k, (rule, claims) in enumerate(classes):
        calls.append(new_class(rule))
        calls.extend(claim(k, one.numerator, one.denominator) for one in claims)
    return calls


def desk_calls(classes, amount):
    """The calls that make the classes and put the amount there; whole numbers, Fractions or texts like 1/2."""
    stock = Fraction(amount)
    made = [(rule, [Fraction(one) for one in claims]) for rule, claims in classes]
    return [*class_calls(made), there(stock.numerator, stock.denominator)]


def fraction_list(numbers):
    return [Fraction(a, b) for a, b in zip(numbers[::2], numbers[1::2], strict=True)]


def rows_of(numbers, width):
    """What share (width 2) or whole (width 1) answered, class by class."""
    result = []
    place = 1
    for _ in range(numbers[0]):
        end = place + 1 + width * numbers[place]
        result.append(numbers[place + 1:end])
        place = end
    if place != len(numbers):
        raise AssertionError(f"not as many numbers as told: {numbers}")
    return result


def shares_of(classes, amount):
    """The shares as lists of Fractions, if amount is there."""
    numbers = last(*desk_calls(classes, amount), share())
    return [fraction_list(row) for row in rows_of(numbers, 2)]


def units_of(classes, amount):
    """The shares in whole units, if amount is there."""
    return rows_of(last(*desk_calls(classes, amount), whole()), 1)


def again_of(classes, amount, k, claims):
    """What again answers, as a list of Fractions, if amount is there."""
    numbers = last(*desk_calls(classes, amount), again(k, claims))
    if numbers[0] != len(claims):
        raise AssertionError(f"not as many claims as told: {numbers}")
    return fraction_list(numbers[1:])


def class_shares(rule, claims, amount):
    """The shares of a class that is alone; whole numbers, Fractions or texts like 1/2."""
    return shares_of([(rule, claims)], amount)[0]
