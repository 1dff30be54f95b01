"""Whole numbers, fractions in lowest terms, and equations between whole numbers."""

ZERO = (0, 1)
ONE = (1, 1)


def is_whole(thing):
    # To Python a truth is an int too, but here it is no whole number.
    return isinstance(thing, int) and not isinstance(thing, bool)


def common_divisor(a, b):
    """The greatest whole number that divides both."""
    a, b = abs(a), abs(b)
    while b:
        a, b = b, a % b
    return a


def is_fraction(thing):
    """Whether the thing, which may be anything, is a fraction."""
    if not isinstance(thing, tuple) or len(thing) != 2:
        return False
    top, bottom = thing
    if not is_whole(top) or not is_whole(bottom):
        return False
    return bottom >= 1 and common_divisor(top, bottom) == 1


def are_fractions(thing, many):
    """Whether the thing, which may be anything, is a tuple of so many fractions."""
    if not isinstance(thing, tuple) or len(thing) != many:
        return False
    return all([is_fraction(one) for one in thing])


def fraction(top, bottom):
    """The top through the bottom, a whole number from 1 on, in lowest terms."""
    divisor = common_divisor(top, bottom)
    return (top // divisor, bottom // divisor)


def plus(one, other):
    return fraction(one[0] * other[1] + other[0] * one[1], one[1] * other[1])


def minus(one, other):
    return fraction(one[0] * other[1] - other[0] * one[1], one[1] * other[1])


def times(one, other):
    return fraction(one[0] * other[0], one[1] * other[1])


def total(fractions):
    """All fractions together, 0 where there are none."""
    whole = ZERO
    for one in fractions:
        whole = plus(whole, one)
    return whole


def is_less(one, other):
    return one[0] * other[1] < other[0] * one[1]


def common_bottom(fractions):
    """The least whole number from 1 on that each bottom divides."""
    common = 1
    for top, bottom in fractions:
        common = common // common_divisor(common, bottom) * bottom
    return common


def solved(rows):
    """The fractions that meet the equations, one for each unknown.

    A row has a whole number for each unknown and, as its last one, what they come to together. The rows are such that
    no leading number becomes 0 or less, as are those of means.balanced and meets.mean_until_met.
    """
    table = list(rows)
    former = 1
    for at in range(len(rows)):
        lead = table[at]
        table = [row if k == at else cleared(row, lead, at, former) for k, row in enumerate(table)]
        former = lead[at]
    return tuple([fraction(row[-1], former) for row in table])


def cleared(row, lead, at, former):
    """The row with 0 for the unknown at this index, by the row that leads there."""
    # Each number is a determinant of the first rows, so the former leading number divides it without a rest.
    return [(lead[at] * one - row[at] * other) // former for one, other in zip(row, lead)]
