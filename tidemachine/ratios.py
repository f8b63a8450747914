"""Exact fractions, as tuples of two whole numbers: the one above and the one below."""


# The fraction in lowest terms; above is from 0 on, below is above 0.
def lowest_terms(above, below):
    common = common_divisor(above, below)
    return (above // common, below // common)


# The greatest whole number that divides both.
def common_divisor(one, other):
    while other > 0:
        rest = one % other
        one = other
        other = rest
    return one
