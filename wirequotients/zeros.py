"""Where a polynomial's zeros lie: left of the axis, on it, right of it.

Along the axis, at s = j w, a polynomial in s is a real part and j times another, both polynomials in w. Their common
divisor holds the zeros on the axis; how often the one goes through infinity over the other tells the rest.
"""

from wirequotients.polynomials import negated, primitive, trimmed, whole_remainder


class ZeroCount:
    """How many zeros, each as often as it is."""

    def __init__(self, left, axis, right):
        self.left = left
        self.axis = axis
        self.right = right


def count_zeros(polynomial):
    """The zeros of a polynomial that is not 0."""
    degree = len(polynomial) - 1
    even = part_along_axis(polynomial, 0)
    odd = part_along_axis(polynomial, 1)
    # The turning along the axis, in half turns, is how many more zeros lie left than right; the zeros on the axis,
    # and the pairs s and -s, fall out of it with the common divisor.
    if degree % 2 == 0:
        chain = remainder_chain(even, odd)
        surplus = -jumps(chain)
    else:
        chain = remainder_chain(odd, even)
        surplus = jumps(chain)
    axis = real_zeros(chain[-1])
    return ZeroCount((degree - axis + surplus) // 2, axis, (degree - axis - surplus) // 2)


def part_along_axis(polynomial, oddness):
    """The real part at s = j w of the even powers, or the factor of j of the odd ones, as a polynomial in w."""
    result = []
    for power, x in enumerate(polynomial):
        turned = x if power % 4 < 2 else -x
        result.append(turned if power % 2 == oddness else 0)
    return trimmed(result)


def remainder_chain(first, second):
    """Sturm's chain from two polynomials on; its last is their common divisor."""
    chain = [first]
    following = second
    while following:
        chain.append(following)
        following = negated(primitive(signed_remainder(chain[-2], following)))
    return chain


def signed_remainder(left, right):
    """What is left over of left by right, but for a factor above 0."""
    return whole_remainder(left, right if right[-1] > 0 else negated(right))


def jumps(chain):
    """Over all real numbers, how often the second over the first jumps up through infinity, less how often down."""
    below = [polynomial[-1] if len(polynomial) % 2 == 1 else -polynomial[-1] for polynomial in chain]
    above = [polynomial[-1] for polynomial in chain]
    return sign_changes(below) - sign_changes(above)


def sign_changes(numbers):
    return len([k for k in range(1, len(numbers)) if (numbers[k] > 0) != (numbers[k - 1] > 0)])


def real_zeros(polynomial):
    """How many real zeros, each as often as it is: the different ones, then those that are there once more, and on."""
    count = 0
    rest = polynomial
    while len(rest) > 1:
        chain = remainder_chain(rest, derivative(rest))
        count += jumps(chain)
        rest = chain[-1]
    return count


def derivative(polynomial):
    return [power * x for power, x in enumerate(polynomial)][1:]
