"""Fractions as pairs: a numerator, and a denominator above 0.

They need not be in lowest terms: a run only compares and rounds them, and both go without. What is told must be.
"""

NOTHING = (0, 1)
ONE = (1, 1)


def common_divisor(x, y):
    """The greatest whole number that divides both; 0 if both are 0."""
    one = abs(x)
    other = abs(y)
    while other != 0:
        rest = one % other
        one = other
        other = rest
    return one


def lowest(x):
    """The fraction in lowest terms."""
    divisor = common_divisor(x[0], x[1])
    return (x[0] // divisor, x[1] // divisor)


def plus(x, y):
    return (x[0] * y[1] + y[0] * x[1], x[1] * y[1])


def minus(x, y):
    return (x[0] * y[1] - y[0] * x[1], x[1] * y[1])


def negative(x):
    return (-x[0], x[1])


def product(x, y):
    return (x[0] * y[0], x[1] * y[1])


def quotient(x, y):
    """x by y, which must be above 0: the denominator has to stay so."""
    return (x[0] * y[1], x[1] * y[0])


def above(x, y):
    return x[0] * y[1] > y[0] * x[1]


def scale_of(numbers):
    """The least whole number above 0 that makes each of the fractions whole."""
    scale = 1
    for x in numbers:
        scale = scale * (x[1] // common_divisor(scale, x[1]))
    return scale


def scaled(numbers, scale):
    """The fractions times a scale that makes them whole, as whole numbers."""
    return [x[0] * (scale // x[1]) for x in numbers]


def rounded(x, fineness):
    """The multiple of 1 / fineness that is nearest to x; of two as near, the even multiple."""
    top = x[0] * fineness
    multiple = top // x[1]
    rest = top - multiple * x[1]
    if 2 * rest > x[1] or (2 * rest == x[1] and multiple % 2 == 1):
        multiple += 1
    return (multiple, fineness)


def power_of_two(exponent):
    power = 1
    for k in range(exponent):
        power = power * 2
    return power
