"""Fractions: tuples (a, b) of whole numbers in lowest terms, b from 1 on."""


def product(numbers):
    """All the numbers times one another; 1 of none."""
    total = 1
    for number in numbers:
        total *= number
    return total


def common_divisor(a, b):
    """The greatest whole number that divides both, a and b not below 0."""
    while b > 0:
        a, b = b, a % b
    return a


def lowest(a, b):
    """The fraction a by b, for any a and b from 1 on."""
    divisor = common_divisor(abs(a), b)
    return (a // divisor, b // divisor)


def plus(one, other):
    """The sum of two fractions."""
    a, b = one
    c, d = other
    return lowest(a * d + c * b, b * d)


def times(one, other):
    """The product of two fractions."""
    a, b = one
    c, d = other
    return lowest(a * c, b * d)


def is_less(one, other):
    """Whether the one fraction is less than the other."""
    a, b = one
    c, d = other
    # Both lower numbers are above 0, so multiplying by them turns nothing round.
    return a * d < c * b
