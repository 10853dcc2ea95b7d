"""Exact fractions in lowest terms."""


def common_divisor(first, second):
    """Give back the greatest whole number that divides both."""
    while second > 0:
        rest = first % second
        first = second
        second = rest
    return first


class Ratio:
    """A fraction in lowest terms; its bottom is positive, and that of zero is 1."""

    def __init__(self, top, bottom):
        shared = common_divisor(abs(top), bottom)
        self.top = top // shared
        self.bottom = bottom // shared

    def plus(self, other):
        """Give back the sum."""
        return Ratio(self.top * other.bottom + other.top * self.bottom, self.bottom * other.bottom)

    def minus(self, other):
        """Give back the difference."""
        return Ratio(self.top * other.bottom - other.top * self.bottom, self.bottom * other.bottom)

    def times(self, other):
        """Give back the product."""
        return Ratio(self.top * other.top, self.bottom * other.bottom)

    def over(self, other):
        """Give back the quotient by a fraction greater than 0."""
        return Ratio(self.top * other.bottom, self.bottom * other.top)

    def smaller(self, other):
        """Give back the smaller one of both."""
        if other.top * self.bottom < self.top * other.bottom:
            return other
        return self

    def squared(self):
        """Give back the square."""
        return self.times(self)

    def pair(self):
        """Give back the fraction as it is answered: its top, then its bottom."""
        return [self.top, self.bottom]


def whole(number):
    """Give back a whole number as a fraction."""
    return Ratio(number, 1)


def total(ratios):
    """Give back the sum of all of them, 0 if there are none."""
    result = whole(0)
    for ratio in ratios:
        result = result.plus(ratio)
    return result


def mean(ratios):
    """Give back the mean of at least one fraction."""
    return total(ratios).over(whole(len(ratios)))
