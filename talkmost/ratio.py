"""Fractions: tuples `(p, q)` in lowest terms with `q` at least 1."""

from math import gcd

ZERO = (0, 1)
ONE = (1, 1)


def ratio(p, q):
    """Return the fraction p by q, where q is not 0."""
    if q < 0:
        p, q = -p, -q
    common = gcd(p, q)
    return (p // common, q // common)


def is_fraction(number):
    """Return whether the tuple of integers has the form of a fraction."""
    return len(number) == 2 and number[1] >= 1 and gcd(number[0], number[1]) == 1


def add(a, b):
    """Return the sum."""
    # What divides the new numerator and denominator divides what the old denominators have in
    # common; so long numbers that have little in common are not divided as a whole.
    common = gcd(a[1], b[1])
    left = a[1] // common
    p = a[0] * (b[1] // common) + b[0] * left
    rest = gcd(p, common)
    return (p // rest, left * (b[1] // rest))


def sub(a, b):
    """Return the difference."""
    return add(a, neg(b))


def mul(a, b):
    """Return the product."""
    return ratio(a[0] * b[0], a[1] * b[1])


def div(a, b):
    """Return a divided by b, which is not 0."""
    return ratio(a[0] * b[1], a[1] * b[0])


def neg(a):
    """Return the negative."""
    return (-a[0], a[1])


def less(a, b):
    """Return whether a is less than b."""
    return a[0] * b[1] < b[0] * a[1]


def at_most(a, b):
    """Return whether a is at most b."""
    return a[0] * b[1] <= b[0] * a[1]


def added(numbers):
    """Return the sum of a list, 0 of an empty one."""
    result = ZERO
    for number in numbers:
        result = add(result, number)
    return result


def dot(a, b):
    """Return the sum of the products of two lists of the same length."""
    return added([mul(left, right) for left, right in zip(a, b)])


def multiplied(numbers):
    """Return the product of a list, 1 of an empty one."""
    result = ONE
    for number in numbers:
        result = mul(result, number)
    return result


def scaled(number, numbers):
    """Return the list of the products of a number and each number of a list."""
    return [mul(number, other) for other in numbers]


def first_greatest(numbers):
    """Return the index of the first of the greatest numbers of a list that is not empty."""
    best = 0
    for at, number in enumerate(numbers):
        if less(numbers[best], number):
            best = at
    return best


def greatest(numbers):
    """Return the greatest number of a list that is not empty."""
    return numbers[first_greatest(numbers)]


def cover(numbers, lists):
    """Return whether each number is at least all numbers of its list."""
    return all([at_most(lesser, number) for number, inner in zip(numbers, lists) for lesser in inner])


def nested_numbers(nested, counts):
    """Return whether these are as many lists of lists as is told, level by level, of fractions."""
    if not counts:
        return is_fraction(nested)
    return len(nested) == counts[0] and all([nested_numbers(inner, counts[1:]) for inner in nested])
