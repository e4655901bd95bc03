"""Whole numbers without rounding: factorials, arrangements, determinants, fractions."""

from math import comb, gcd, perm


def is_number(thing):
    """Whether thing is a number: an int that is not a bool."""
    return isinstance(thing, int) and not isinstance(thing, bool)


def factorial(many):
    """How many orders so many unlike things have."""
    return perm(many, many)


def arrangements(numbers):
    """How many rows have so many things of each kind, things of one kind being alike."""
    ways, length = 1, 0
    for number in numbers:
        length = length + number
        ways = ways * comb(length, number)
    return ways


def determinant(rows):
    """The determinant; 1 for no rows."""
    left, sign, before = list(rows), 1, 1
    while len(left) > 1:
        fit = [at for at, row in enumerate(left) if row[0] != 0]
        if not fit:
            return 0
        head, rest = left[fit[0]], left[:fit[0]] + left[fit[0] + 1:]
        sign = sign if fit[0] & 1 == 0 else -sign
        # Each of these divisions leaves no remainder (Bareiss), so no fractions arise.
        left = [[(head[0] * worth - row[0] * above) // before for worth, above in zip(row[1:], head[1:])]
                for row in rest]
        before = head[0]
    return sign * left[0][0] if left else 1


def lowest(upper, lower):
    """The FRACTION upper / lower, for upper from 0 and lower from 1 on."""
    common = gcd(upper, lower)
    return (upper // common, lower // common)
