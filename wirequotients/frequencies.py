"""A complex number s, and what a quotient comes to there.

s is handed over as four numbers: its real part's numerator and denominator, its imaginary part's. Within, a complex
number with whole parts is a pair: the real part, the imaginary part.
"""

from wirequotients.polynomials import lowest_terms

NUMBERS_OF_S = 4
MOST_TOP_OF_S = 1000
MOST_BOTTOM_OF_S = 1000


def is_frequency_row(s):
    return len(s) == NUMBERS_OF_S and is_fraction_of_s(s[0], s[1]) and is_fraction_of_s(s[2], s[3])


def is_fraction_of_s(top, bottom):
    return abs(top) <= MOST_TOP_OF_S and 1 <= bottom <= MOST_BOTTOM_OF_S


def told_value(top, bottom, s):
    """top over bottom at s, the real part and the imaginary part as fractions; None if the bottom is 0 there."""
    powers = max(len(top), len(bottom))
    above = whole_value(top, s, powers)
    below = whole_value(bottom, s, powers)
    size = below[0] * below[0] + below[1] * below[1]
    if size == 0:
        return None
    turned = complex_product(above, (below[0], -below[1]))
    return lowest_terms(turned[0], size) + lowest_terms(turned[1], size)


def whole_value(polynomial, s, powers):
    """The polynomial at s, times a power of s' denominator that hangs on powers alone and makes it whole."""
    common = s[1] * s[3]
    place = (s[0] * s[3], s[2] * s[1])
    padded = polynomial + [0] * (powers - len(polynomial))
    result = (0, 0)
    weight = 1
    for x in reversed(padded):
        turned = complex_product(result, place)
        result = (turned[0] + x * weight, turned[1])
        weight *= common
    return result


def complex_product(left, right):
    return (left[0] * right[0] - left[1] * right[1], left[0] * right[1] + left[1] * right[0])
