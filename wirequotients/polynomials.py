"""Polynomials in s with whole coefficients.

A polynomial is a list of its coefficients, the constant one first, the last one not 0; the polynomial 0 is [].
"""


def trimmed(coefficients):
    length = len(coefficients)
    while length > 0 and coefficients[length - 1] == 0:
        length -= 1
    return coefficients[:length]


def constant(x):
    return [x] if x != 0 else []


def negated(polynomial):
    return [-x for x in polynomial]


def added(left, right):
    result = [0] * max(len(left), len(right))
    for power, x in enumerate(left):
        result[power] = x
    for power, y in enumerate(right):
        result[power] += y
    return trimmed(result)


def subtracted(left, right):
    return added(left, negated(right))


def multiplied(left, right):
    if not left or not right:
        return []
    result = [0] * (len(left) + len(right) - 1)
    for low, x in enumerate(left):
        for high, y in enumerate(right):
            result[low + high] += x * y
    return result


def divided(left, right):
    """left over right, for a right that goes into left with whole coefficients and nothing left over."""
    if not left:
        return []
    rest = list(left)
    result = [0] * (len(left) - len(right) + 1)
    for shift in range(len(result) - 1, -1, -1):
        factor = rest[shift + len(right) - 1] // right[-1]
        result[shift] = factor
        for power, y in enumerate(right):
            rest[shift + power] -= factor * y
    return result


def constant_of(polynomial):
    return polynomial[0] if polynomial else 0


def greatest_divisor(x, y):
    """The greatest whole number that goes into both; 0 only if both are 0."""
    large = abs(x)
    small = abs(y)
    while small != 0:
        rest = large % small
        large = small
        small = rest
    return large


def lowest_terms(top, bottom):
    """top over bottom, a bottom that is not 0, as a fraction is told."""
    divisor = greatest_divisor(top, bottom)
    if bottom < 0:
        divisor = -divisor
    return [top // divisor, bottom // divisor]


def content(polynomial):
    result = 0
    for x in polynomial:
        result = greatest_divisor(result, x)
    return result


def primitive(polynomial):
    """The polynomial without the whole number that goes into all its coefficients."""
    divisor = content(polynomial)
    return [x // divisor for x in polynomial]


def whole_remainder(left, right):
    """What is left over of left by right, but for a whole factor, which keeps the coefficients whole."""
    rest = left
    while len(rest) >= len(right):
        shift = len(rest) - len(right)
        taken = [0] * shift + [rest[-1] * y for y in right]
        rest = subtracted([right[-1] * x for x in rest], taken)
    return rest


def common_divisor(left, right):
    """The greatest polynomial that goes into both, without a whole factor of its own."""
    large = primitive(left)
    small = primitive(right)
    while small:
        rest = primitive(whole_remainder(large, small))
        large = small
        small = rest
    return large
