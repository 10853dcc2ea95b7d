"""precision, rank_measures, gains and order_measure."""

import itertools
import unittest
from fractions import Fraction

from study_calls import (
    LARGEST, NOT_ENOUGH, OUT_OF_LIMITS, ask, create, gains, order_measure, precision, rank_measures,
)


def answer_of(call):
    """What a call that measures a ranked list answers."""
    return ask([create(1, 1), call])[1]


def pair(value):
    """A fraction as it is answered."""
    return [Fraction(value).numerator, Fraction(value).denominator]


class Precision(unittest.TestCase):
    def test_ordinary(self):
        relevance = [1, 0, 1, 1, 0, 0]
        answers = [[1, 1], [1, 2], [2, 3], [3, 4], [3, 5], [1, 2]]
        for count, answer in enumerate(answers, 1):
            with self.subTest(count=count):
                self.assertEqual(answer_of(precision(count, relevance)), [0] + answer)

    def test_more_than_there_are_ranks(self):
        self.assertEqual(answer_of(precision(12, [1])), [0, 1, 12])
        self.assertEqual(answer_of(precision(4, [1, 0, 1])), [0, 1, 2])
        self.assertEqual(answer_of(precision(5, [0, 0])), [0, 0, 1])

    def test_one_rank_and_twelve(self):
        self.assertEqual(answer_of(precision(1, [1])), [0, 1, 1])
        self.assertEqual(answer_of(precision(1, [0])), [0, 0, 1])
        self.assertEqual(answer_of(precision(12, [1] * 12)), [0, 1, 1])
        self.assertEqual(answer_of(precision(12, [0] * 11 + [1])), [0, 1, 12])
        self.assertEqual(answer_of(precision(1, [0] * 11 + [1])), [0, 0, 1])

    def test_counts_outside_their_limits(self):
        for count in (0, 13, LARGEST):
            self.assertEqual(answer_of(precision(count, [1, 0])), OUT_OF_LIMITS)

    def test_relevance_outside_its_limits(self):
        for relevance in ([], [2], [1, 0, 2], [LARGEST, 1], [0] * 11 + [2]):
            with self.subTest(relevance=relevance):
                self.assertEqual(answer_of(precision(1, relevance)), OUT_OF_LIMITS)
        self.assertEqual(answer_of(precision(0, [])), OUT_OF_LIMITS)


class RankMeasures(unittest.TestCase):
    def test_ordinary(self):
        answers = [
            ([0, 1, 1], [2, 7, 12, 1, 2]),
            ([1, 0, 1], [2, 5, 6, 1, 1]),
            ([0, 0, 1, 0, 1], [2, 11, 30, 1, 3]),
            ([1, 0, 0, 1, 0, 1], [3, 2, 3, 1, 1]),
        ]
        for relevance, answer in answers:
            with self.subTest(relevance=relevance):
                self.assertEqual(answer_of(rank_measures(relevance)), answer)

    def test_no_relevant_one(self):
        for length in (1, 2, 12):
            self.assertEqual(answer_of(rank_measures([0] * length)), [0, 0, 1, 0, 1])

    def test_all_relevant(self):
        for length in (1, 2, 12):
            self.assertEqual(answer_of(rank_measures([1] * length)), [length, 1, 1, 1, 1])

    def test_the_last_one_alone(self):
        for length in (2, 7, 12):
            self.assertEqual(answer_of(rank_measures([0] * (length - 1) + [1])), [1, 1, length, 1, length])

    def test_each_list_of_up_to_7_ranks(self):
        for length in range(1, 8):
            for relevance in itertools.product((0, 1), repeat=length):
                ranks = [rank for rank in range(1, length + 1) if relevance[rank - 1]]
                precisions = [Fraction(sum(relevance[:rank]), rank) for rank in ranks]
                average = sum(precisions) / Fraction(max(1, len(ranks)))
                first = Fraction(1, ranks[0]) if ranks else 0
                self.assertEqual(answer_of(rank_measures(list(relevance))), [len(ranks)] + pair(average) + pair(first))
                self.assertTrue(average <= 1 and first <= 1)

    def test_outside_the_limits(self):
        for relevance in ([], [2], [0, 1, 2], [LARGEST], [1] * 11 + [2]):
            with self.subTest(relevance=relevance):
                self.assertEqual(answer_of(rank_measures(relevance)), OUT_OF_LIMITS)


class Gains(unittest.TestCase):
    def test_ordinary(self):
        answers = [
            ([3, 2, 3], [5, 1, 30, 31]),
            ([1, 2], [2, 1, 4, 5]),
            ([0, 0, 100], [100, 3, 1, 3]),
            ([7, 7, 7], [77, 6, 1, 1]),
            ([100, 0, 50, 1], [1403, 12, 1403, 1504]),
        ]
        for numbers, answer in answers:
            with self.subTest(numbers=numbers):
                self.assertEqual(answer_of(gains(numbers)), [0] + answer)

    def test_one_gain(self):
        self.assertEqual(answer_of(gains([1])), [0, 1, 1, 1, 1])
        self.assertEqual(answer_of(gains([100])), [0, 100, 1, 1, 1])

    def test_twelve(self):
        self.assertEqual(answer_of(gains([0] * 11 + [100])), [0, 25, 3, 1, 12])
        self.assertEqual(answer_of(gains([1] * 12)), [0, 86021, 27720, 1, 1])
        self.assertEqual(answer_of(gains(list(range(12, 0, -1))))[3:], [1, 1])

    def test_all_gains_0(self):
        for length in (1, 2, 12):
            self.assertEqual(answer_of(gains([0] * length)), NOT_ENOUGH)

    def test_outside_the_limits(self):
        for numbers in ([], [101], [0, 101], [0, LARGEST], [1] * 11 + [101]):
            with self.subTest(numbers=numbers):
                self.assertEqual(answer_of(gains(numbers)), OUT_OF_LIMITS)

    def test_order_of_errors(self):
        self.assertEqual(answer_of(gains([])), OUT_OF_LIMITS)
        self.assertEqual(answer_of(gains([0, 0, 101])), OUT_OF_LIMITS)

    def test_at_most_the_ideal_one(self):
        for numbers in itertools.product((0, 1, 40, 100), repeat=4):
            if max(numbers) > 0:
                answer = answer_of(gains(list(numbers)))
                gain = sum(Fraction(number, rank) for rank, number in enumerate(numbers, 1))
                ideal = max(sum(Fraction(number, rank) for rank, number in enumerate(order, 1))
                            for order in itertools.permutations(numbers))
                self.assertEqual(answer, [0] + pair(gain) + pair(gain / ideal))
                self.assertTrue(0 < gain <= ideal)


class OrderMeasure(unittest.TestCase):
    def test_ordinary(self):
        answers = [
            ([1, 3, 2], [2, 1, 1, 3]),
            ([3, 1, 2], [1, 2, -1, 3]),
            ([5, 5, 7, 1], [2, 3, -1, 6]),
            ([2, 1, 4, 3], [4, 2, 1, 3]),
            ([0, 1000], [1, 0, 1, 1]),
            ([1000, 0], [0, 1, -1, 1]),
        ]
        for ranks, answer in answers:
            with self.subTest(ranks=ranks):
                self.assertEqual(answer_of(order_measure(ranks)), answer)

    def test_rising_falling_and_equal(self):
        for length in (2, 3, 12):
            pairs = length * (length - 1) // 2
            rising = list(range(length))
            self.assertEqual(answer_of(order_measure(rising)), [pairs, 0, 1, 1])
            self.assertEqual(answer_of(order_measure(rising[::-1])), [0, pairs, -1, 1])
            self.assertEqual(answer_of(order_measure([9] * length)), [0, 0, 0, 1])

    def test_as_many_each_way(self):
        self.assertEqual(answer_of(order_measure([1, 2, 1])), [1, 1, 0, 1])

    def test_outside_the_limits(self):
        for ranks in ([], [1], [1001], [1, 1001], [1001, 1], [1] * 11 + [1001], [LARGEST, 1]):
            with self.subTest(ranks=ranks):
                self.assertEqual(answer_of(order_measure(ranks)), OUT_OF_LIMITS)


if __name__ == "__main__":
    unittest.main()
