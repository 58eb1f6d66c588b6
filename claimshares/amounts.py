"""Exact amounts, 0 or more: pairs (above, below) of the line, always in lowest terms."""

ZERO = (0, 1)


def common_divisor(first, second):
    divisor = first
    rest = second
    while rest > 0:
        next_rest = divisor % rest
        divisor = rest
        rest = next_rest
    return divisor


def lowest(above, below):
    divisor = common_divisor(above, below)
    return (above // divisor, below // divisor)


def plus(first, second):
    return lowest(first[0] * second[1] + second[0] * first[1], first[1] * second[1])


# Amounts are never below 0, so second must be no more than first.
def minus(first, second):
    return lowest(first[0] * second[1] - second[0] * first[1], first[1] * second[1])


def times(first, second):
    return lowest(first[0] * second[0], first[1] * second[1])


def divided(first, second):
    return lowest(first[0] * second[1], first[1] * second[0])


def is_less(first, second):
    return first[0] * second[1] < second[0] * first[1]


def lesser(first, second):
    if is_less(second, first):
        return second
    return first


def together(amounts):
    result = ZERO
    for amount in amounts:
        result = plus(result, amount)
    return result


# Pairs don't sort by size; what is above one common line does.
def above_common_line(amounts):
    common = 1
    for amount in amounts:
        common = common * amount[1]
    return [amount[0] * (common // amount[1]) for amount in amounts]


def ascending(amounts):
    sizes = above_common_line(amounts)
    return [pair[1] for pair in sorted(zip(sizes, amounts))]


# sorted keeps the order of equal ones, so of these the lower place stands first.
def places_largest_first(amounts):
    sizes = above_common_line(amounts)
    return sorted(range(len(amounts)), key=lambda place: -sizes[place])


# Amounts are in lowest terms, so a whole one has 1 below the line.
def is_whole(amount):
    return amount[1] == 1
