"""Exact fractions in lowest terms."""


def common_divisor(first, second):
    """Give back the greatest whole number that divides both."""
    while second > 0:
        rest = first % second
        first = second
        second = rest
    return first


class Ratio:
    """A fraction in lowest terms; its bottom is positive, and that of zero is 1."""

    def __init__(self, top, bottom):
        shared = common_divisor(abs(top), bottom)
        self.top = top // shared
        self.bottom = bottom // shared

    def plus(self, other):
        """Give back the sum."""
        return Ratio(self.top * other.bottom + other.top * self.bottom, self.bottom * other.bottom)

    def minus(self, other):
        """Give back the difference."""
        return Ratio(self.top * other.bottom - other.top * self.bottom, self.bottom * other.bottom)

    def times(self, other):
        """Give back the product."""
        return Ratio(self.top * other.top, self.bottom * other.bottom)

    def over(self, other):
        """Give back the quotient by a fraction greater than 0."""
        return Ratio(self.top * other.bottom, self.bottom * other.top)

    def below(self, other):
        """Give back whether it is less than the other one."""
        return self.top * other.bottom < other.top * self.bottom

    def smaller(self, other):
        """Give back the smaller one of both."""
        if other.below(self):
            return other
        return self

    def squared(self):
        """Give back the square."""
        return self.times(self)

    def pair(self):
        """Give back the fraction as it is answered: its top, then its bottom."""
        return [self.top, self.bottom]


def whole(number):
    """Give back a whole number as a fraction."""
    return Ratio(number, 1)


def total(ratios):
    """Give back the sum of all of them, 0 if there are none."""
    result = whole(0)
    for ratio in ratios:
        result = result.plus(ratio)
    return result


def mean(ratios):
    """Give back the mean, 0 if there are none."""
    if len(ratios) == 0:
        return whole(0)
    return total(ratios).over(whole(len(ratios)))


def greatest(ratios):
    """Give back the greatest one of at least one fraction."""
    result = ratios[0]
    for ratio in ratios:
        if result.below(ratio):
            result = ratio
    return result


def common_bottom(ratios):
    """Give back the least whole number that all bottoms divide."""
    result = 1
    for ratio in ratios:
        result = result // common_divisor(result, ratio.bottom) * ratio.bottom
    return result


def tops_over(ratios, bottom):
    """Give back the tops that the fractions have over a bottom that all of theirs divide."""
    return [ratio.top * (bottom // ratio.bottom) for ratio in ratios]
