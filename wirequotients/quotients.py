"""Quotients of polynomials in s, told in their one form."""

from wirequotients.polynomials import common_divisor, content, divided, greatest_divisor


def told_quotient(top, bottom):
    """top over bottom, a bottom that is not 0, as the row of numbers in which it is told."""
    if not top:
        return [1, 0, 1, 1]
    shared = common_divisor(top, bottom)
    lean_top = divided(top, shared)
    lean_bottom = divided(bottom, shared)
    factor = greatest_divisor(content(lean_top), content(lean_bottom))
    if lean_bottom[-1] < 0:
        factor = -factor
    return told_polynomial(lean_top, factor) + told_polynomial(lean_bottom, factor)


def told_polynomial(polynomial, factor):
    """How many coefficients, then they, the highest power's first, each without the factor."""
    return [len(polynomial)] + [x // factor for x in reversed(polynomial)]
