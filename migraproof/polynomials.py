"""Polynomials as tuples of integer coefficients, and their signs at the integers from 0 on."""

from math import comb


def value_at(polynomial, n):
    """The value of the polynomial at n."""
    value = 0
    for coefficient in reversed(polynomial):
        value = value * n + coefficient
    return value


def added(first, second):
    """The sum of the two polynomials."""
    shorter, longer = (first, second) if len(first) < len(second) else (second, first)
    coefficients = list(longer)
    for power, coefficient in enumerate(shorter):
        coefficients[power] += coefficient
    return without_last_zeros(coefficients)


def multiplied(first, second):
    """The product of the two polynomials."""
    coefficients = [0] * (len(first) + len(second))
    for power, coefficient in enumerate(first):
        for other_power, other in enumerate(second):
            coefficients[power + other_power] += coefficient * other
    return without_last_zeros(coefficients)


def falling(start, many):
    """The polynomial (n - start) * (n - start - 1) * ... with so many factors."""
    polynomial = (1,)
    for step in range(many):
        polynomial = multiplied(polynomial, (-start - step, 1))
    return polynomial


def signs(polynomial):
    """The pairs (n, sign) for n = 0 and for all n at which the sign is not that at n - 1."""
    found = [(0, sign_at(polynomial, 0))]
    if len(polynomial) < 2:
        return tuple(found)
    slopes = signs(differences(polynomial))
    for number, (start, slope) in enumerate(slopes):
        end = slopes[number + 1][0] if number + 1 < len(slopes) else None
        found.extend(changes_between(polynomial, start, end, slope))
    return tuple(found)


def compare(first, second):
    """The last pair of the signs of the first polynomial minus the second one."""
    return signs(added(first, multiplied(second, (-1,))))[-1]


def without_last_zeros(coefficients):
    """The tuple of the coefficients up to the last one that is not 0."""
    many = len(coefficients)
    while many and coefficients[many - 1] == 0:
        many -= 1
    return tuple(coefficients[:many])


def sign_at(polynomial, n):
    """The sign of the value at n: -1, 0 or 1."""
    value = value_at(polynomial, n)
    return (value > 0) - (value < 0)


def differences(polynomial):
    """The polynomial whose value at n is the value of this one at n + 1 minus that at n."""
    found = [0] * len(polynomial)
    for power, coefficient in enumerate(polynomial):
        for lower in range(power):
            found[lower] += coefficient * comb(power, lower)
    return without_last_zeros(found)


def changes_between(polynomial, start, end, slope):
    """The pairs (n, sign) for all n after start, up to the end, at which the sign is not that at n - 1.

    From start to the end, forever if it is None, all differences of neighboring values have the sign `slope`.
    """
    found = []
    at, sign = start, sign_at(polynomial, start)
    last_sign = slope or sign
    if end is not None:
        last_sign = sign_at(polynomial, end)
    while sign != last_sign:
        at = next_change(polynomial, at, end)
        sign = sign_at(polynomial, at)
        found.append((at, sign))
    return found


def next_change(polynomial, start, end):
    """The first n after start at which the sign is not that at start; it is not that at the end either.

    If the end is None, the sign differs from some n on. There is no n at which it has changed back.
    """
    sign = sign_at(polynomial, start)
    step = 1
    while sign_at(polynomial, start + step) == sign and (end is None or start + step < end):
        step = step * 2
    low, high = start, start + step
    if end is not None and end < high:
        high = end
    while high - low > 1:
        middle = (low + high) // 2
        if sign_at(polynomial, middle) == sign:
            low = middle
        else:
            high = middle
    return high
