"""set_policy, copy_policy, set_model, fit_model and set_truth."""

import unittest

from study_calls import (
    LARGEST, MISSING, OUT_OF_LIMITS, add_event, ask, copy_policy, create, estimate, fit_model, last, model_info,
    propensity, set_model, set_policy, set_truth, true_value,
)


def model_of(calls, contexts):
    """The model after the calls: each estimated reward as the answer tells it."""
    rows = []
    for context in range(contexts):
        answer = last(calls + [model_info(context)])
        rows.append(list(zip(answer[1::2], answer[2::2])))
    return rows


class SetPolicy(unittest.TestCase):
    def test_answers_the_sum(self):
        for weights, answer in (([1, 0, 0], 1), ([0, 0, 7], 7), ([1000, 1000, 1000], 3000), ([2, 3, 4], 9)):
            with self.subTest(weights=weights):
                self.assertEqual(last([create(1, 3), set_policy(0, 0, weights)]), [answer])
        self.assertEqual(last([create(6, 5), set_policy(2, 5, [1000] * 5)]), [5000])

    def test_sets_one_policy_in_one_context(self):
        calls = [create(2, 2), set_policy(1, 1, [1, 2])]
        places = [(policy, context) for policy in range(3) for context in range(2)]
        answered = ask(calls + [propensity(policy, context, 1) for policy, context in places])[2:]
        for place, answer in zip(places, answered):
            self.assertEqual(answer, [0, 2, 3] if place == (1, 1) else [0, 1, 2])

    def test_weights_outside_their_limits(self):
        wrong = [[], [1, 1], [1, 1, 1, 1], [1] * 12, [0, 0, 0], [1001, 1, 1], [1, 1, 1001], [LARGEST, 1, 1]]
        for weights in wrong:
            with self.subTest(weights=weights):
                calls = [create(2, 3), set_policy(0, 0, weights), propensity(0, 0, 0)]
                self.assertEqual(ask(calls)[1:], [OUT_OF_LIMITS, [0, 1, 3]])

    def test_missing(self):
        for policy, context in ((3, 0), (0, 2), (3, 2), (LARGEST, 0), (0, LARGEST)):
            with self.subTest(policy=policy, context=context):
                self.assertEqual(last([create(2, 2), set_policy(policy, context, [1, 1])]), MISSING)
        self.assertEqual(last([create(2, 2), set_policy(2, 1, [1, 1])]), [2])

    def test_order_of_errors(self):
        self.assertEqual(last([create(2, 2), set_policy(3, 0, [0, 0])]), MISSING)
        self.assertEqual(last([create(2, 2), set_policy(0, 2, [])]), MISSING)


class CopyPolicy(unittest.TestCase):
    def test_copies_all_contexts(self):
        calls = [create(2, 2), set_policy(0, 0, [1, 2]), set_policy(0, 1, [1, 4]), copy_policy(0, 2)]
        asked = [propensity(2, 0, 1), propensity(2, 1, 1), propensity(1, 0, 1), propensity(0, 0, 1)]
        self.assertEqual(ask(calls + asked)[3:], [[0], [0, 2, 3], [0, 4, 5], [0, 1, 2], [0, 2, 3]])

    def test_source_comes_before_target(self):
        calls = [create(1, 2), set_policy(1, 0, [1, 2]), copy_policy(0, 1), propensity(1, 0, 1), propensity(0, 0, 1)]
        self.assertEqual(ask(calls)[2:], [[0], [0, 1, 2], [0, 1, 2]])

    def test_both_go_their_own_ways_afterwards(self):
        calls = [create(2, 2), set_policy(0, 0, [1, 2]), copy_policy(0, 1)]
        asked = [propensity(0, 0, 1), propensity(1, 0, 1), propensity(0, 1, 1), propensity(1, 1, 1)]
        self.assertEqual(ask(calls + [set_policy(0, 0, [1, 4]), set_policy(0, 1, [1, 9])] + asked)[5:],
                         [[0, 4, 5], [0, 2, 3], [0, 9, 10], [0, 1, 2]])
        self.assertEqual(ask(calls + [set_policy(1, 0, [1, 4]), set_policy(1, 1, [1, 9])] + asked)[5:],
                         [[0, 2, 3], [0, 4, 5], [0, 1, 2], [0, 9, 10]])

    def test_onto_itself(self):
        calls = [create(1, 2), set_policy(1, 0, [1, 2]), copy_policy(1, 1), propensity(1, 0, 1)]
        self.assertEqual(ask(calls)[2:], [[0], [0, 2, 3]])

    def test_missing(self):
        for source, target in ((3, 0), (0, 3), (3, 3), (LARGEST, 0), (0, LARGEST)):
            with self.subTest(source=source, target=target):
                self.assertEqual(last([create(1, 1), copy_policy(source, target)]), MISSING)


class SetModel(unittest.TestCase):
    def test_sets_one_context(self):
        calls = [create(3, 2), set_model(1, [0, 100])]
        self.assertEqual(last(calls), [0])
        self.assertEqual(model_of(calls, 3), [[(0, 1), (0, 1)], [(0, 1), (100, 1)], [(0, 1), (0, 1)]])

    def test_set_again(self):
        calls = [create(2, 1), set_model(0, [30]), set_model(1, [40]), set_model(0, [50])]
        self.assertEqual(model_of(calls, 2), [[(50, 1)], [(40, 1)]])

    def test_estimates_outside_their_limits(self):
        for estimates in ([], [1], [1, 1, 1], [1] * 12, [101, 0], [0, 101], [0, LARGEST]):
            with self.subTest(estimates=estimates):
                calls = [create(2, 2), set_model(0, [5, 6]), set_model(0, estimates)]
                self.assertEqual(last(calls), OUT_OF_LIMITS)
                self.assertEqual(model_of(calls, 1), [[(5, 1), (6, 1)]])
        self.assertEqual(last([create(2, 2), set_model(0, [0, 0])]), [0])
        self.assertEqual(last([create(2, 2), set_model(0, [100, 100])]), [0])

    def test_missing(self):
        for context in (2, 3, LARGEST):
            self.assertEqual(last([create(2, 2), set_model(context, [1, 1])]), MISSING)
        self.assertEqual(last([create(2, 2), set_model(1, [1, 1])]), [0])

    def test_order_of_errors(self):
        self.assertEqual(last([create(2, 2), set_model(2, [101])]), MISSING)


class FitModel(unittest.TestCase):
    def test_answers_the_number_of_events(self):
        calls = [create(2, 2), fit_model(), add_event(0, 0, 1, 1, 1), add_event(0, 0, 1, 1, 1), fit_model()]
        self.assertEqual(ask(calls), [[0], [0], [1], [2], [2]])

    def test_means_of_events(self):
        # Action 0 was rewarded with 10, 21 and 60, action 1 with 7 in context 0 alone, action 2 never.
        calls = [
            create(3, 3),
            add_event(0, 0, 10, 1, 2),
            add_event(0, 0, 21, 1, 7),
            add_event(1, 0, 60, 1, 1),
            add_event(0, 1, 7, 1, 3),
            fit_model(),
        ]
        self.assertEqual(model_of(calls, 3), [
            [(31, 2), (7, 1), (0, 1)],
            [(60, 1), (7, 1), (0, 1)],
            [(91, 3), (7, 1), (0, 1)],
        ])

    def test_replaces_the_whole_model(self):
        calls = [create(2, 2), set_model(0, [9, 9]), set_model(1, [9, 9]), fit_model()]
        self.assertEqual(model_of(calls, 2), [[(0, 1), (0, 1)], [(0, 1), (0, 1)]])

    def test_stays_when_events_come_later(self):
        calls = [create(1, 1), add_event(0, 0, 10, 1, 1), fit_model(), add_event(0, 0, 50, 1, 1)]
        self.assertEqual(model_of(calls, 1), [[(10, 1)]])

    def test_rewards_of_0_count_as_events(self):
        calls = [create(2, 1), add_event(0, 0, 0, 1, 1), add_event(1, 0, 50, 1, 1), fit_model()]
        self.assertEqual(model_of(calls, 2), [[(0, 1)], [(50, 1)]])


class SetTruth(unittest.TestCase):
    SETS = [set_truth(0, 3, [10, 20]), set_truth(1, 1, [50, 90])]

    def values_after(self, calls):
        """The true values of the policies that choose one action alone in each of 2 contexts."""
        values = []
        for first in ([1, 0], [0, 1]):
            for second in ([1, 0], [0, 1]):
                asked = [set_policy(0, 0, first), set_policy(0, 1, second), true_value(0)]
                values.append(tuple(last([create(2, 2)] + calls + asked)[1:]))
        return values

    def test_sets_one_context(self):
        self.assertEqual(self.values_after([set_truth(1, 3, [4, 8])]), [(3, 1), (6, 1), (3, 1), (6, 1)])
        self.assertEqual(self.values_after([set_truth(0, 1000, [0, 100])]),
                         [(0, 1), (0, 1), (100000, 1001), (100000, 1001)])
        self.assertEqual(self.values_after(self.SETS), [(20, 1), (30, 1), (55, 2), (75, 2)])

    def test_set_again(self):
        again = [set_truth(0, 9, [99, 98])] + self.SETS
        self.assertEqual(self.values_after(again), [(20, 1), (30, 1), (55, 2), (75, 2)])

    def test_refused_leaves_the_truth(self):
        for given in ((2, 3, [4, 8]), (0, 0, [4, 8]), (0, 1001, [4, 8]), (0, 3, [4]), (0, 3, [101, 8]),
                      (0, 3, [4, 101])):
            with self.subTest(given=given):
                self.assertEqual(self.values_after(self.SETS + [set_truth(*given)]), self.values_after(self.SETS))

    def test_least_and_greatest(self):
        for weight, rewards in ((1, [0, 0]), (1000, [100, 100])):
            self.assertEqual(last([create(2, 2), set_truth(1, weight, rewards)]), [0])

    def test_outside_the_limits(self):
        wrong = [(0, [1, 1]), (1001, [1, 1]), (LARGEST, [1, 1]), (1, []), (1, [1]), (1, [1, 1, 1]), (1, [1] * 12),
                 (1, [101, 0]), (1, [0, 101]), (1, [0, LARGEST])]
        for weight, rewards in wrong:
            with self.subTest(weight=weight, rewards=rewards):
                self.assertEqual(last([create(2, 2), set_truth(0, weight, rewards)]), OUT_OF_LIMITS)

    def test_missing(self):
        for context in (2, LARGEST):
            self.assertEqual(last([create(2, 2), set_truth(context, 1, [1, 1])]), MISSING)

    def test_order_of_errors(self):
        self.assertEqual(last([create(2, 2), set_truth(2, 0, [1, 1])]), MISSING)
        self.assertEqual(last([create(2, 2), set_truth(2, 1, [])]), MISSING)

    def test_changes_no_estimate(self):
        calls = [create(1, 2), add_event(0, 1, 30, 1, 2)]
        asked = [estimate(0, kind, 100) for kind in range(4)]
        self.assertEqual(ask(calls + asked)[2:], ask(calls + [set_truth(0, 9, [80, 90])] + asked)[3:])


if __name__ == "__main__":
    unittest.main()
