"""The shares of one class in whole units."""

from claimshares.amounts import minus, places_largest_first, together


# The shares together must be whole; then no more units are left over than there are shares that lose by the rounding.
def in_whole_units(shares):
    units = [amount[0] // amount[1] for amount in shares]
    losses = [minus(amount, (unit, 1)) for amount, unit in zip(shares, units)]
    left_over = together(losses)[0]
    for place in places_largest_first(losses)[:left_over]:
        units[place] += 1
    return units
