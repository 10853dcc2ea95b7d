"""true_value, expectation and unsupported."""

import unittest
from fractions import Fraction

from sample_logs import ASSUMED, PRIMES
from study_calls import (
    LARGEST, MISSING, OUT_OF_LIMITS, ask, copy_policy, create, expectation, last, set_model, set_policy, set_truth,
    status, true_value, unsupported,
)


class TrueValue(unittest.TestCase):
    def test_ordinary(self):
        # Policy 0: 1/4 * 10 + 3/4 * (1/4 * 4 + 3/4 * 8). Policy 1: 1/4 * 6 + 3/4 * 6.
        self.assertEqual(last(ASSUMED + [true_value(0)]), [0, 31, 4])
        self.assertEqual(last(ASSUMED + [true_value(1)]), [0, 6, 1])

    def test_unequal_weights(self):
        calls = [create(3, 1), set_truth(0, 1000, [1]), set_truth(1, 1, [100]), set_truth(2, 500, [10])]
        self.assertEqual(last(calls + [true_value(0)]), [0, 6100, 1501])

    def test_least_and_greatest(self):
        self.assertEqual(last([create(6, 5), true_value(0)]), [0, 0, 1])
        calls = [create(6, 5)] + [set_truth(context, context + 1, [100] * 5) for context in range(6)]
        self.assertEqual(last(calls + [set_policy(0, 3, [0, 0, 7, 0, 1]), true_value(0)]), [0, 100, 1])

    def test_neither_the_log_nor_the_model_matters(self):
        self.assertEqual(last([create(2, 2), set_policy(0, 0, [1, 0]), set_policy(0, 1, [1, 3])] + ASSUMED[-2:] +
                              [true_value(0)]), [0, 31, 4])

    def test_missing(self):
        for policy in (3, LARGEST):
            self.assertEqual(last(ASSUMED + [true_value(policy)]), MISSING)


class Expectation(unittest.TestCase):
    def check(self, logging, policy, answers):
        for (kind, limit), answer in answers.items():
            with self.subTest(kind=kind, limit=limit):
                self.assertEqual(last(ASSUMED + [expectation(logging, policy, kind, limit)]), [0] + answer)

    def test_each_kind(self):
        # The decisions have the probabilities 1/8, 1/8, 3/8 and 3/8, the importances 2, 0, 1/2 and 3/2, and the
        # rewards 10, 2, 4 and 8; the doubly robust terms are 0, 20, 77 and -63.
        self.check(1, 0, {
            (0, 1): [245, 4, 9075, 16],
            (1, 1): [31, 4, 727, 16],
            (2, 100): [5, 1, 13, 1],
            (2, 1): [23, 400, 151, 160000],
            (2, 100000): [31, 4, 727, 16],
            (3, 1): [31, 4, 59227, 16],
        })

    def test_a_logging_policy_that_leaves_an_action_out(self):
        # The decisions have the probabilities 1/4, 0, 3/16 and 9/16; the terms of kind 1 are 5, 8 and 16/3, those of
        # kind 3 are 30 + 1/2 * (10 - 20), 50 + 2 * 4 and 50 + 2/3 * (8 - 100).
        self.check(0, 1, {
            (0, 1): [45, 1, 75, 1],
            (1, 1): [23, 4, 19, 16],
            (2, 100000): [23, 4, 19, 16],
            (3, 1): [43, 4, 11899, 16],
        })

    def test_the_logging_policy_itself(self):
        self.check(0, 0, {(1, 1): [31, 4, 63, 16], (2, 100): [31, 4, 63, 16], (2, 50): [31, 8, 63, 64]})

    def test_the_limit_only_matters_for_the_clipped_one(self):
        for kind in (0, 1, 3):
            asked = [expectation(1, 0, kind, 1), expectation(1, 0, kind, 100000)]
            self.assertEqual(*ask(ASSUMED + asked)[len(ASSUMED):])

    def test_one_decision_alone(self):
        calls = [create(1, 1), set_truth(0, 1000, [70]), set_model(0, [30])]
        for kind, answer in ((0, 30), (1, 70), (2, 70), (3, 70)):
            self.assertEqual(last(calls + [expectation(2, 1, kind, 100)]), [0, answer, 1, 0, 1])

    def test_terms_below_0(self):
        calls = [create(1, 2), set_policy(0, 0, [1, 3]), set_policy(1, 0, [1, 0]), set_model(0, [100, 0])]
        # Terms 100 + 4 * (0 - 100) and 100, with 1/4 and 3/4.
        self.assertEqual(last(calls + [expectation(0, 1, 3, 1)]), [0, 0, 1, 30000, 1])

    def test_numbers_beyond_64_bits(self):
        calls = [create(6, 2)]
        squares = Fraction(0)
        for context, prime in enumerate(PRIMES[:6]):
            calls += [set_policy(0, context, [prime, 1000 - prime]), set_truth(context, 1, [100, 99])]
            squares += Fraction(50 ** 2 * 1000, prime) / 6 + Fraction(99 ** 2 * 1000, 4 * (1000 - prime)) / 6
        spread = squares - Fraction(199, 2) ** 2
        self.assertGreater(spread.denominator, 2 ** 64)
        self.assertEqual(last(calls + [expectation(0, 1, 1, 1)]), [0, 199, 2, spread.numerator, spread.denominator])

    def test_no_event_is_needed_and_none_is_added(self):
        calls = [create(2, 2), set_truth(0, 1, [9, 9]), set_truth(1, 1, [9, 9])]
        self.assertEqual(ask(calls + [expectation(0, 1, 1, 1), status()])[3:], [[0, 9, 1, 0, 1], [2, 2, 0, 0]])

    def test_missing(self):
        for logging, policy in ((3, 0), (0, 3), (3, 3), (LARGEST, 0), (0, LARGEST)):
            with self.subTest(logging=logging, policy=policy):
                self.assertEqual(last(ASSUMED + [expectation(logging, policy, 1, 100)]), MISSING)

    def test_kind_and_limit(self):
        for kind, limit in ((4, 1), (LARGEST, 1), (2, 0), (2, 100001), (0, 0), (1, 100001), (3, LARGEST)):
            with self.subTest(kind=kind, limit=limit):
                self.assertEqual(last(ASSUMED + [expectation(0, 1, kind, limit)]), OUT_OF_LIMITS)

    def test_order_of_errors(self):
        for logging, policy in ((3, 0), (0, 3)):
            self.assertEqual(last(ASSUMED + [expectation(logging, policy, 4, 0)]), MISSING)


class Unsupported(unittest.TestCase):
    def test_ordinary(self):
        self.assertEqual(last(ASSUMED + [unsupported(0, 1)]), [1, 0, 1])
        self.assertEqual(last(ASSUMED + [unsupported(1, 0)]), [0])
        self.assertEqual(last(ASSUMED + [unsupported(0, 0)]), [0])

    def test_ordered_by_context_then_by_action(self):
        calls = [create(3, 3), set_policy(0, 2, [0, 0, 5]), set_policy(0, 0, [0, 1, 0]), set_policy(1, 2, [2, 0, 0])]
        self.assertEqual(last(calls + [unsupported(0, 1)]), [3, 0, 0, 0, 2, 2, 0])
        self.assertEqual(last(calls + [unsupported(1, 0)]), [1, 2, 2])
        self.assertEqual(last(calls + [copy_policy(0, 1), unsupported(0, 1)]), [0])

    def test_as_many_as_there_can_be(self):
        calls = [create(6, 5)] + [set_policy(2, context, [0, 0, 0, 0, 1]) for context in range(6)]
        pairs = [number for context in range(6) for action in range(4) for number in (context, action)]
        self.assertEqual(last(calls + [unsupported(2, 0)]), [24] + pairs)

    def test_missing(self):
        for logging, policy in ((3, 0), (0, 3), (3, 3), (LARGEST, 0), (0, LARGEST)):
            with self.subTest(logging=logging, policy=policy):
                self.assertEqual(last(ASSUMED + [unsupported(logging, policy)]), MISSING)


if __name__ == "__main__":
    unittest.main()
