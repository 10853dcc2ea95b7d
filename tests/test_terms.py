"""interval, compare, by_context, greatest_weight, model_info and status."""

import unittest
from fractions import Fraction

from sample_logs import LOG, MODELLED, NEVER, PRIME_LOG, PRIMES
from study_calls import (
    LARGEST, MISSING, NOT_ENOUGH, OUT_OF_LIMITS, add_event, ask, by_context, compare, create, estimate, fit_model,
    greatest_weight, interval, last, log_event, model_info, remove_last, set_model, set_policy, status, variance,
)

ONE_EVENT = [create(2, 2), add_event(1, 0, 6, 1, 4)]


class Interval(unittest.TestCase):
    def test_each_kind(self):
        answers = {
            (0, 1): [40, 1, 200, 1],
            (1, 1): [47, 6, 43, 2],
            (2, 1): [7, 100, 1, 1000],
            (2, 100): [19, 3, 10, 1],
            (2, 100000): [47, 6, 43, 2],
            (3, 1): [97, 6, 3363, 2],
        }
        for (kind, limit), answer in answers.items():
            with self.subTest(kind=kind, limit=limit):
                self.assertEqual(last(MODELLED + [interval(1, kind, limit, 6)]), [0] + answer)

    def test_factors(self):
        for factor, radius in ((1, [43, 12]), (2, [43, 6]), (12, [43, 1]), (10000, [107500, 3])):
            with self.subTest(factor=factor):
                self.assertEqual(last(LOG + [interval(1, 1, 100, factor)]), [0, 47, 6] + radius)
        for factor in (0, 10001, LARGEST):
            with self.subTest(factor=factor):
                self.assertEqual(last(LOG + [interval(1, 1, 100, factor)]), OUT_OF_LIMITS)

    def test_a_negative_estimate_and_no_radius(self):
        calls = [create(1, 1), set_model(0, [50])] + [add_event(0, 0, 0, 3, 4)] * 2
        self.assertEqual(last(calls + [interval(0, 3, 1, 10000)]), [0, -50, 3, 0, 1])

    def test_numbers_beyond_64_bits(self):
        terms = [Fraction(100 * 1000, prime) for prime in PRIMES]
        middle = sum(terms) / len(terms)
        radius = 7 * sum((term - middle) ** 2 for term in terms) / (len(terms) * (len(terms) - 1))
        self.assertGreater(radius.numerator, 2 ** 128)
        self.assertEqual(last(PRIME_LOG + [interval(0, 1, 1, 7)]),
                         [0, middle.numerator, middle.denominator, radius.numerator, radius.denominator])

    def test_fewer_than_two_events(self):
        for kind in range(4):
            self.assertEqual(last([create(1, 1), interval(0, kind, 1, 1)]), NOT_ENOUGH)
            self.assertEqual(last(ONE_EVENT + [interval(0, kind, 1, 1)]), NOT_ENOUGH)

    def test_policy_kind_and_limit(self):
        for policy in (3, LARGEST):
            self.assertEqual(last(LOG + [interval(policy, 1, 100, 1)]), MISSING)
        for kind, limit in ((4, 1), (LARGEST, 1), (2, 0), (0, 100001), (3, LARGEST)):
            self.assertEqual(last(LOG + [interval(0, kind, limit, 1)]), OUT_OF_LIMITS)

    def test_the_factor_comes_first(self):
        for factor in (0, 10001):
            self.assertEqual(last(LOG + [interval(3, 1, 100, factor)]), OUT_OF_LIMITS)
            self.assertEqual(last([create(1, 1), interval(0, 1, 100, factor)]), OUT_OF_LIMITS)

    def test_then_the_order_of_variance(self):
        self.assertEqual(last(LOG + [interval(3, 4, 0, 1)]), MISSING)
        self.assertEqual(last(ONE_EVENT + [interval(3, 1, 1, 1)]), MISSING)
        self.assertEqual(last(ONE_EVENT + [interval(0, 4, 1, 1)]), OUT_OF_LIMITS)
        self.assertEqual(last(ONE_EVENT + [interval(0, 1, 0, 1)]), OUT_OF_LIMITS)


class Compare(unittest.TestCase):
    # The differences of the terms, policy 0 minus policy 1, of each kind:
    # -10 -10 25 25, 10 -4 -6 8/3, 0 -4 0 8/3, -20 26 19 -17/3.
    ANSWERS = {
        (0, 1): [15, 2, 1225, 12],
        (1, 1): [2, 3, 118, 9],
        (2, 1): [-1, 100, 1, 10000],
        (2, 100): [-1, 3, 17, 9],
        (2, 100000): [2, 3, 118, 9],
        (3, 1): [29, 6, 4127, 36],
    }

    def test_each_kind(self):
        for (kind, limit), answer in self.ANSWERS.items():
            with self.subTest(kind=kind, limit=limit):
                self.assertEqual(last(MODELLED + [compare(0, 1, kind, limit)]), [0] + answer)

    def test_the_other_way_round(self):
        for (kind, limit), answer in self.ANSWERS.items():
            with self.subTest(kind=kind, limit=limit):
                self.assertEqual(last(MODELLED + [compare(1, 0, kind, limit)]), [0, -answer[0]] + answer[1:])

    def test_equal_policies(self):
        for kind in range(4):
            self.assertEqual(last(MODELLED + [compare(0, 0, kind, 100)]), [0, 0, 1, 0, 1])
            self.assertEqual(last(MODELLED + [compare(1, 2, kind, 100)]), [0, 0, 1, 0, 1])

    def test_two_events(self):
        calls = LOG + [remove_last(), remove_last()]
        self.assertEqual(last(calls + [compare(0, 1, 1, 1)]), [0, 3, 1, 49, 1])

    def test_fewer_than_two_events(self):
        for kind in range(4):
            self.assertEqual(last([create(1, 1), compare(0, 1, kind, 1)]), NOT_ENOUGH)
            self.assertEqual(last(ONE_EVENT + [compare(0, 1, kind, 1)]), NOT_ENOUGH)

    def test_missing(self):
        for first, second in ((3, 0), (0, 3), (3, 3), (LARGEST, 0), (0, LARGEST)):
            with self.subTest(first=first, second=second):
                self.assertEqual(last(LOG + [compare(first, second, 1, 100)]), MISSING)
        self.assertEqual(last(LOG + [compare(2, 2, 1, 100)])[0], 0)

    def test_kind_and_limit(self):
        for kind, limit in ((4, 1), (LARGEST, 1), (2, 0), (2, 100001), (0, 0), (1, 100001), (3, LARGEST)):
            with self.subTest(kind=kind, limit=limit):
                self.assertEqual(last(LOG + [compare(0, 1, kind, limit)]), OUT_OF_LIMITS)

    def test_order_of_errors(self):
        for first, second in ((3, 0), (0, 3)):
            self.assertEqual(last(LOG + [compare(first, second, 4, 0)]), MISSING)
            self.assertEqual(last(ONE_EVENT + [compare(first, second, 1, 1)]), MISSING)
        self.assertEqual(last(ONE_EVENT + [compare(0, 1, 4, 1)]), OUT_OF_LIMITS)
        self.assertEqual(last(ONE_EVENT + [compare(0, 1, 1, 0)]), OUT_OF_LIMITS)


class ByContext(unittest.TestCase):
    def test_each_kind(self):
        answers = {
            (0, 1): [2, 30, 1, 2, 50, 1],
            (1, 1): [2, 7, 1, 2, 26, 3],
            (2, 100): [2, 7, 1, 2, 17, 3],
            (2, 1): [2, 7, 100, 2, 7, 100],
            (2, 100000): [2, 7, 1, 2, 26, 3],
            (3, 1): [2, 7, 1, 2, 76, 3],
        }
        for (kind, limit), answer in answers.items():
            with self.subTest(kind=kind, limit=limit):
                self.assertEqual(last(MODELLED + [by_context(1, kind, limit)]), [2] + answer)

    def test_events_in_any_order(self):
        events = [add_event(2, 0, 9, 1, 1), add_event(0, 0, 10, 1, 1), add_event(2, 0, 4, 1, 1), add_event(2, 0, 1, 1, 1)]
        self.assertEqual(last([create(3, 1)] + events + [by_context(0, 1, 1)]), [3, 1, 10, 1, 0, 0, 1, 3, 14, 3])

    def test_contexts_without_events(self):
        calls = [create(3, 2)] + [set_model(context, [10, 30]) for context in range(3)] + [add_event(1, 0, 6, 1, 4)]
        for kind, answer in ((0, [20, 1]), (1, [12, 1]), (2, [6, 1]), (3, [12, 1])):
            with self.subTest(kind=kind):
                self.assertEqual(last(calls + [by_context(0, kind, 100)]), [3, 0, 0, 1, 1] + answer + [0, 0, 1])

    def test_one_context_and_six(self):
        self.assertEqual(last([create(1, 1), add_event(0, 0, 7, 1, 2), by_context(0, 1, 1)]), [1, 1, 14, 1])
        self.assertEqual(last([create(6, 1), add_event(5, 0, 7, 1, 2), by_context(0, 1, 1)]),
                         [6] + [0, 0, 1] * 5 + [1, 14, 1])

    def test_negative(self):
        calls = [create(2, 1), set_model(1, [50]), add_event(1, 0, 0, 3, 4), add_event(0, 0, 1, 1, 1)]
        self.assertEqual(last(calls + [by_context(0, 3, 1)]), [2, 1, 1, 1, 1, -50, 3])

    def test_no_events(self):
        for kind in range(4):
            self.assertEqual(last([create(2, 2), by_context(0, kind, 1)]), NOT_ENOUGH)

    def test_policy_kind_and_limit(self):
        for policy in (3, LARGEST):
            self.assertEqual(last(LOG + [by_context(policy, 1, 100)]), MISSING)
        for kind, limit in ((4, 1), (LARGEST, 1), (2, 0), (2, 100001), (0, 0), (3, LARGEST)):
            self.assertEqual(last(LOG + [by_context(0, kind, limit)]), OUT_OF_LIMITS)

    def test_order_of_errors(self):
        self.assertEqual(last([create(2, 2), by_context(3, 4, 0)]), MISSING)
        self.assertEqual(last([create(2, 2), by_context(3, 1, 1)]), MISSING)
        self.assertEqual(last([create(2, 2), by_context(0, 4, 1)]), OUT_OF_LIMITS)
        self.assertEqual(last([create(2, 2), by_context(0, 1, 0)]), OUT_OF_LIMITS)


class GreatestWeight(unittest.TestCase):
    def test_ordinary(self):
        self.assertEqual(last(LOG + [greatest_weight(1)]), [0, 2, 1])
        self.assertEqual(last(LOG + [greatest_weight(0)]), [0, 2, 1])

    def test_the_greatest_at_any_place(self):
        # The policy chooses each of two actions with 1/2: importances 2/3, 3/4 and 5/8.
        events = [add_event(0, 0, 1, 3, 4), add_event(0, 1, 1, 2, 3), add_event(0, 0, 1, 4, 5)]
        for turn in range(3):
            turned = events[turn:] + events[:turn]
            self.assertEqual(last([create(1, 2)] + turned + [greatest_weight(0)]), [0, 3, 4])

    def test_all_importances_0(self):
        self.assertEqual(last(NEVER + [greatest_weight(0)]), [0, 0, 1])

    def test_one_event(self):
        self.assertEqual(last(ONE_EVENT + [greatest_weight(0)]), [0, 2, 1])
        self.assertEqual(last([create(1, 1), add_event(0, 0, 0, 1, 1000), greatest_weight(2)]), [0, 1000, 1])

    def test_errors(self):
        self.assertEqual(last([create(1, 1), greatest_weight(0)]), NOT_ENOUGH)
        for policy in (3, LARGEST):
            self.assertEqual(last(LOG + [greatest_weight(policy)]), MISSING)
            self.assertEqual(last([create(1, 1), greatest_weight(policy)]), MISSING)


class ModelInfo(unittest.TestCase):
    def test_at_first(self):
        self.assertEqual(last([create(2, 1), model_info(1)]), [1, 0, 1])
        self.assertEqual(last([create(6, 5), model_info(5)]), [5] + [0, 1] * 5)

    def test_set(self):
        self.assertEqual(last(MODELLED + [model_info(0)]), [2, 20, 1, 40, 1])
        self.assertEqual(last(MODELLED + [model_info(1)]), [2, 0, 1, 100, 1])

    def test_fitted(self):
        events = [add_event(0, 0, 10, 1, 2), add_event(0, 0, 21, 1, 7), add_event(1, 0, 60, 1, 1), add_event(0, 1, 7, 1, 3)]
        calls = [create(3, 3)] + events + [fit_model()]
        answered = ask(calls + [model_info(context) for context in range(3)])[len(calls):]
        self.assertEqual(answered, [[3, 31, 2, 7, 1, 0, 1], [3, 60, 1, 7, 1, 0, 1], [3, 91, 3, 7, 1, 0, 1]])

    def test_missing(self):
        for context in (2, LARGEST):
            self.assertEqual(last(LOG + [model_info(context)]), MISSING)


class Status(unittest.TestCase):
    def test_ordinary(self):
        self.assertEqual(last([create(2, 3), status()]), [2, 3, 0, 0])
        self.assertEqual(last(LOG + [status()]), [2, 2, 4, 28])
        self.assertEqual(last(LOG + [remove_last(), status()]), [2, 2, 3, 20])
        self.assertEqual(last(LOG + [log_event(0, 1, 1, 100), status()]), [2, 2, 5, 128])
        self.assertEqual(last(LOG + [create(1, 5), status()]), [1, 5, 0, 0])

    def test_rewards_of_0_are_events(self):
        self.assertEqual(last([create(1, 1), add_event(0, 0, 0, 1, 1), status()]), [1, 1, 1, 0])

    def test_a_full_log(self):
        self.assertEqual(last([create(6, 5)] + [add_event(0, 0, 100, 1, 1)] * 41 + [status()]), [6, 5, 40, 4000])


class TheSameWithOtherWords(unittest.TestCase):
    def test_interval_is_estimate_and_variance(self):
        for kind in range(4):
            for limit in (1, 70, 100000):
                asked = [interval(1, kind, limit, 1), estimate(1, kind, limit), variance(1, kind, limit)]
                both, middle, spread = ask(MODELLED + asked)[len(MODELLED):]
                self.assertEqual(both, middle + spread[1:])

    def test_compare_with_a_policy_that_has_no_terms(self):
        calls = [create(1, 2), set_policy(0, 0, [1, 0]), set_policy(1, 0, [0, 1])]
        calls += [add_event(0, 0, 10, 1, 2), add_event(0, 0, 30, 1, 5)]
        for kind in (1, 2):
            asked = [compare(0, 1, kind, 150), interval(0, kind, 150, 1)]
            self.assertEqual(ask(calls + asked)[-2], ask(calls + asked)[-1])


if __name__ == "__main__":
    unittest.main()
