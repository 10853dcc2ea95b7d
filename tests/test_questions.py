"""propensity, estimate, normalized, replay, effective_size and variance."""

import unittest
from fractions import Fraction

from sample_logs import LOG, MODELLED, NEVER, PRIME_LOG, PRIMES
from study_calls import (
    LARGEST, MISSING, NOT_ENOUGH, OUT_OF_LIMITS, add_event, ask, create, effective_size, estimate, fit_model, last,
    log_event, normalized, propensity, replay, set_model, set_policy, variance,
)

class Propensity(unittest.TestCase):
    def test_lowest_terms(self):
        calls = [create(1, 4), set_policy(0, 0, [6, 0, 4, 2])]
        answered = ask(calls + [propensity(0, 0, action) for action in range(4)])[2:]
        self.assertEqual(answered, [[0, 1, 2], [0, 0, 1], [0, 1, 3], [0, 1, 6]])

    def test_the_only_action(self):
        self.assertEqual(last([create(1, 1), set_policy(0, 0, [1000]), propensity(0, 0, 0)]), [0, 1, 1])

    def test_great_weights(self):
        calls = [create(6, 5), set_policy(2, 5, [1000, 1000, 1000, 1000, 999]), propensity(2, 5, 4)]
        self.assertEqual(last(calls), [0, 999, 4999])

    def test_missing(self):
        for place in ((3, 0, 0), (0, 2, 0), (0, 0, 3), (LARGEST, 0, 0), (0, LARGEST, 0), (0, 0, LARGEST)):
            with self.subTest(place=place):
                self.assertEqual(last([create(2, 3), propensity(*place)]), MISSING)
        self.assertEqual(last([create(2, 3), propensity(2, 1, 2)]), [0, 1, 3])


class Estimate(unittest.TestCase):
    def test_direct(self):
        self.assertEqual(last(MODELLED + [estimate(1, 0, 1)]), [0, 40, 1])
        self.assertEqual(last(MODELLED + [estimate(0, 0, 1)]), [0, 95, 2])

    def test_inverse_propensity(self):
        self.assertEqual(last(MODELLED + [estimate(1, 1, 1)]), [0, 47, 6])
        self.assertEqual(last(MODELLED + [estimate(0, 1, 1)]), [0, 17, 2])

    def test_clipped(self):
        for limit, answer in ((1, [7, 100]), (50, [7, 2]), (100, [19, 3]), (150, [85, 12]), (200, [47, 6]),
                              (100000, [47, 6])):
            with self.subTest(limit=limit):
                self.assertEqual(last(MODELLED + [estimate(1, 2, limit)]), [0] + answer)

    def test_doubly_robust(self):
        self.assertEqual(last(MODELLED + [estimate(1, 3, 1)]), [0, 97, 6])

    def test_the_limit_only_matters_for_the_clipped_one(self):
        for kind in (0, 1, 3):
            first = last(MODELLED + [estimate(1, kind, 1)])
            self.assertEqual(first, last(MODELLED + [estimate(1, kind, 100000)]))

    def test_the_fitted_model(self):
        calls = [create(1, 2), add_event(0, 0, 3, 1, 2), add_event(0, 0, 4, 1, 2), add_event(0, 1, 8, 1, 3), fit_model()]
        # Direct value: half of 7/2 and of 8. The corrections are 3 - 7/2, 4 - 7/2 and 0.
        self.assertEqual(last(calls + [estimate(0, 0, 1)]), [0, 23, 4])
        self.assertEqual(last(calls + [estimate(0, 3, 1)]), [0, 23, 4])

    def test_negative(self):
        calls = [create(1, 1), set_model(0, [50]), add_event(0, 0, 0, 3, 4), estimate(0, 3, 1)]
        self.assertEqual(last(calls), [0, -50, 3])

    def test_zero(self):
        for kind in (1, 2):
            self.assertEqual(last(NEVER + [estimate(0, kind, 100)]), [0, 0, 1])

    def test_numbers_beyond_64_bits(self):
        terms = [Fraction(100 * 1000, prime) for prime in PRIMES]
        middle = sum(terms) / len(terms)
        spread = sum((term - middle) ** 2 for term in terms) / (len(terms) * (len(terms) - 1))
        self.assertGreater(middle.denominator, 2 ** 128)
        answered = ask(PRIME_LOG + [estimate(0, 1, 1), variance(0, 1, 1)])[-2:]
        self.assertEqual(answered[0], [0, middle.numerator, middle.denominator])
        self.assertEqual(answered[1], [0, spread.numerator, spread.denominator])

    def test_one_event(self):
        calls = [create(1, 2), set_model(0, [10, 20]), add_event(0, 1, 30, 1, 4)]
        answered = ask(calls + [estimate(0, kind, 150) for kind in range(4)])[3:]
        self.assertEqual(answered, [[0, 15, 1], [0, 60, 1], [0, 45, 1], [0, 35, 1]])

    def test_no_events(self):
        for kind in range(4):
            self.assertEqual(last([create(1, 1), estimate(0, kind, 1)]), NOT_ENOUGH)

    def test_forty_events(self):
        events = [add_event(0, 0, reward, 1, 1) for reward in range(40)]
        self.assertEqual(last([create(1, 1)] + events + [estimate(0, 1, 1)]), [0, 39, 2])


class EstimatorErrors(unittest.TestCase):
    def test_kind_and_limit(self):
        for name in (estimate, variance):
            for kind, limit in ((4, 100), (LARGEST, 100), (2, 0), (2, 100001), (0, 0), (1, 100001), (3, LARGEST)):
                with self.subTest(name=name.__name__, kind=kind, limit=limit):
                    self.assertEqual(last(LOG + [name(0, kind, limit)]), OUT_OF_LIMITS)

    def test_missing(self):
        for name in (estimate, variance):
            for policy in (3, LARGEST):
                self.assertEqual(last(LOG + [name(policy, 1, 100)]), MISSING)
            self.assertEqual(last(LOG + [name(2, 1, 100)])[0], 0)

    def test_order(self):
        for name in (estimate, variance):
            self.assertEqual(last([create(1, 1), name(3, 4, 0)]), MISSING)
            self.assertEqual(last([create(1, 1), name(3, 1, 1)]), MISSING)
            self.assertEqual(last([create(1, 1), name(0, 4, 1)]), OUT_OF_LIMITS)
            self.assertEqual(last([create(1, 1), name(0, 1, 0)]), OUT_OF_LIMITS)


class Normalized(unittest.TestCase):
    def test_ordinary(self):
        self.assertEqual(last(LOG + [normalized(1)]), [0, 47, 7])
        self.assertEqual(last(LOG + [normalized(0)]), [0, 17, 2])

    def test_one_event(self):
        self.assertEqual(last([create(1, 2), add_event(0, 1, 30, 1, 4), normalized(0)]), [0, 30, 1])

    def test_all_rewards_0(self):
        self.assertEqual(last([create(1, 2), add_event(0, 1, 0, 1, 4), normalized(0)]), [0, 0, 1])

    def test_a_sum_of_0(self):
        self.assertEqual(last([create(1, 1), normalized(0)]), NOT_ENOUGH)
        self.assertEqual(last(NEVER + [normalized(0)]), NOT_ENOUGH)
        self.assertEqual(last(NEVER + [normalized(1)]), [0, 56, 1])

    def test_missing(self):
        for policy in (3, LARGEST):
            self.assertEqual(last(LOG + [normalized(policy)]), MISSING)
        self.assertEqual(last([create(1, 1), normalized(3)]), MISSING)


class Replay(unittest.TestCase):
    def test_ordinary(self):
        self.assertEqual(last(LOG + [replay(0)]), [2, 9, 1])

    def test_the_first_of_several_greatest_weights(self):
        self.assertEqual(last(LOG + [replay(1)]), [2, 8, 1])
        calls = [create(1, 3), set_policy(0, 0, [2, 5, 5]), add_event(0, 0, 1, 1, 3), add_event(0, 1, 20, 1, 3)]
        self.assertEqual(last(calls + [add_event(0, 2, 90, 1, 3), replay(0)]), [1, 20, 1])

    def test_the_mean_is_a_fraction(self):
        calls = [create(1, 1), log_event(0, 0, 0, 1), log_event(0, 0, 0, 2), log_event(0, 0, 0, 2), replay(0)]
        self.assertEqual(last(calls), [3, 5, 3])

    def test_rewards_of_0(self):
        self.assertEqual(last([create(1, 1), log_event(0, 0, 0, 0), replay(0)]), [1, 0, 1])

    def test_no_such_events(self):
        self.assertEqual(last([create(1, 1), replay(0)]), NOT_ENOUGH)
        self.assertEqual(last(NEVER + [replay(0)]), NOT_ENOUGH)
        self.assertEqual(last(NEVER + [replay(1)]), NOT_ENOUGH)

    def test_missing(self):
        for policy in (3, LARGEST):
            self.assertEqual(last(LOG + [replay(policy)]), MISSING)
        self.assertEqual(last([create(1, 1), replay(3)]), MISSING)


class EffectiveSize(unittest.TestCase):
    def test_ordinary(self):
        self.assertEqual(last(LOG + [effective_size(0)]), [0, 8, 3])
        self.assertEqual(last(LOG + [effective_size(1)]), [0, 98, 29])

    def test_equal_importances(self):
        self.assertEqual(last([create(1, 2)] + [add_event(0, 1, 0, 1, 9)] * 40 + [effective_size(0)]), [0, 40, 1])

    def test_one_event(self):
        self.assertEqual(last([create(1, 2), add_event(0, 1, 7, 1, 9), effective_size(0)]), [0, 1, 1])

    def test_all_importances_0(self):
        self.assertEqual(last([create(1, 1), effective_size(0)]), NOT_ENOUGH)
        self.assertEqual(last(NEVER + [effective_size(0)]), NOT_ENOUGH)
        self.assertEqual(last(NEVER + [effective_size(1)]), [0, 25, 13])

    def test_missing(self):
        for policy in (3, LARGEST):
            self.assertEqual(last(LOG + [effective_size(policy)]), MISSING)
        self.assertEqual(last([create(1, 1), effective_size(3)]), MISSING)


class Variance(unittest.TestCase):
    def test_each_kind(self):
        answers = {(0, 1): [100, 3], (1, 1): [43, 12], (2, 100): [5, 3], (2, 100000): [43, 12], (3, 1): [1121, 4]}
        for (kind, limit), answer in answers.items():
            with self.subTest(kind=kind, limit=limit):
                self.assertEqual(last(MODELLED + [variance(1, kind, limit)]), [0] + answer)

    def test_two_events(self):
        calls = [create(1, 1), add_event(0, 0, 10, 1, 1), add_event(0, 0, 4, 1, 1), variance(0, 1, 1)]
        self.assertEqual(last(calls), [0, 9, 1])

    def test_equal_terms(self):
        calls = [create(1, 1)] + [add_event(0, 0, 10, 1, 3)] * 3 + [variance(0, 1, 1)]
        self.assertEqual(last(calls), [0, 0, 1])

    def test_fewer_than_two_events(self):
        for kind in range(4):
            self.assertEqual(last([create(1, 1), variance(0, kind, 1)]), NOT_ENOUGH)
            self.assertEqual(last([create(1, 1), add_event(0, 0, 1, 1, 1), variance(0, kind, 1)]), NOT_ENOUGH)

    def test_order_with_one_event(self):
        one = [create(1, 1), add_event(0, 0, 1, 1, 1)]
        self.assertEqual(last(one + [variance(3, 1, 1)]), MISSING)
        self.assertEqual(last(one + [variance(0, 1, 0)]), OUT_OF_LIMITS)


if __name__ == "__main__":
    unittest.main()
