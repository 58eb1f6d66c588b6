"""Exact amounts, 0 or more: pairs (above, below) of the line, always in lowest terms."""

ZERO = (0, 1)


def common_divisor(first, second):
    """Answer the greatest whole number that divides both, of which one at least is above 0."""
    divisor = first
    rest = second
    while rest > 0:
        next_rest = divisor % rest
        divisor = rest
        rest = next_rest
    return divisor


def lowest(above, below):
    """Answer the amount above/below; below is not 0."""
    divisor = common_divisor(above, below)
    return (above // divisor, below // divisor)


def plus(first, second):
    """Answer both amounts together."""
    return lowest(first[0] * second[1] + second[0] * first[1], first[1] * second[1])


def minus(first, second):
    """Answer the first amount less the second, which is no more than the first."""
    return lowest(first[0] * second[1] - second[0] * first[1], first[1] * second[1])


def times(first, second):
    """Answer the first amount times the second."""
    return lowest(first[0] * second[0], first[1] * second[1])


def divided(first, second):
    """Answer the first amount divided by the second, which is not 0."""
    return lowest(first[0] * second[1], first[1] * second[0])


def is_less(first, second):
    """Answer whether the first amount is less than the second."""
    return first[0] * second[1] < second[0] * first[1]


def lesser(first, second):
    """Answer that of the two amounts which is no more than the other."""
    if is_less(second, first):
        return second
    return first


def together(amounts):
    """Answer all amounts of a list together."""
    result = ZERO
    for amount in amounts:
        result = plus(result, amount)
    return result


def ascending(amounts):
    """Answer a list's amounts, the least first."""
    # Pairs don't sort by size; what is above one common line does.
    common = 1
    for amount in amounts:
        common = common * amount[1]
    return sorted(amounts, key=lambda one: one[0] * (common // one[1]))
