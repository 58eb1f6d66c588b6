"""The four rules by which the claims of one class share what the class has.

What a class has is never more than its claims together.
"""

from claimshares.amounts import ZERO, ascending, divided, is_less, lesser, lowest, minus, times, together


def by_parts(claims, has):
    claimed = together(claims)
    return [divided(times(claim, has), claimed) for claim in claims]


# The least claims first: once one lies above an equal part of what's left, all behind it do too.
def gains_level(claims, has):
    level = ZERO
    left = has
    count = len(claims)
    for claim in ascending(claims):
        level = divided(left, (count, 1))
        if is_less(level, claim):
            break
        left = minus(left, claim)
        count -= 1
    # If no claim lies above it, the level is the largest claim, so each gets its claim.
    return level


def equal_gains(claims, has):
    level = gains_level(claims, has)
    return [lesser(claim, level) for claim in claims]


def less_losses(claims, losses):
    return [minus(claim, loss) for claim, loss in zip(claims, losses)]


def equal_losses(claims, has):
    missing = minus(together(claims), has)
    return less_losses(claims, equal_gains(claims, missing))


def as_two_agree(claims, has):
    halves = [lowest(claim[0], claim[1] * 2) for claim in claims]
    if not is_less(together(halves), has):
        return equal_gains(halves, has)
    missing = minus(together(claims), has)
    return less_losses(claims, equal_gains(halves, missing))


def shares_by_rule(rule, claims, has):
    if rule == 0:
        return by_parts(claims, has)
    if rule == 1:
        return equal_gains(claims, has)
    if rule == 2:
        return equal_losses(claims, has)
    return as_two_agree(claims, has)
