"""create: the limits of a study, and what it holds at first."""

import unittest

from study_calls import (
    LARGEST, MISSING, NOT_ENOUGH, OUT_OF_LIMITS, add_event, ask, create, estimate, expectation, fit_model, last,
    model_info, normalized, propensity, set_model, set_policy, set_truth, status, true_value,
)


class Limits(unittest.TestCase):
    def test_least_and_greatest(self):
        for contexts in (1, 2, 6):
            for actions in (1, 3, 5):
                with self.subTest(contexts=contexts, actions=actions):
                    self.assertEqual(ask([create(contexts, actions)]), [[0]])

    def test_outside(self):
        for contexts, actions in ((0, 1), (1, 0), (7, 1), (1, 6), (0, 0), (7, 6), (LARGEST, 1), (1, LARGEST)):
            with self.subTest(contexts=contexts, actions=actions):
                self.assertEqual(ask([create(contexts, actions)]), [OUT_OF_LIMITS])

    def test_as_many_contexts_and_actions_as_asked_for(self):
        for contexts, actions in ((1, 1), (6, 5), (1, 5), (6, 1), (2, 3)):
            calls = [
                create(contexts, actions),
                propensity(2, contexts - 1, actions - 1),
                propensity(2, contexts, 0),
                propensity(2, 0, actions),
            ]
            with self.subTest(contexts=contexts, actions=actions):
                self.assertEqual(ask(calls), [[0], [0, 1, actions], MISSING, MISSING])


class AtFirst(unittest.TestCase):
    def test_all_weights_are_1(self):
        for policy in range(3):
            for context in range(2):
                for action in range(3):
                    self.assertEqual(last([create(2, 3), propensity(policy, context, action)]), [0, 1, 3])

    def test_no_events(self):
        self.assertEqual(ask([create(2, 2), fit_model(), estimate(0, 1, 1)]), [[0], [0], NOT_ENOUGH])
        self.assertEqual(last([create(6, 5), status()]), [6, 5, 0, 0])

    def test_the_model_is_0(self):
        self.assertEqual(last([create(2, 2), add_event(1, 1, 50, 1, 2), estimate(0, 0, 1)]), [0, 0, 1])
        self.assertEqual(last([create(2, 3), model_info(1)]), [3, 0, 1, 0, 1, 0, 1])

    def test_all_assumed_rewards_are_0(self):
        asked = [true_value(policy) for policy in range(3)] + [expectation(0, 1, 1, 1)]
        self.assertEqual(ask([create(2, 3)] + asked)[1:], [[0, 0, 1]] * 3 + [[0, 0, 1, 0, 1]])

    def test_all_weights_of_the_truth_are_1(self):
        # The first context alone has a weight of 3, all others that of the beginning.
        for contexts in range(2, 7):
            with self.subTest(contexts=contexts):
                calls = [create(contexts, 1), set_truth(0, 3, [100]), true_value(0)]
                answer = last(calls)
                self.assertEqual(answer[1] * (contexts + 2), 300 * answer[2])


class Again(unittest.TestCase):
    def test_all_is_new(self):
        old = [create(2, 2), set_policy(0, 0, [1, 3]), set_model(0, [40, 60]), add_event(0, 0, 9, 1, 2)]
        new = [create(2, 2), propensity(0, 0, 0), normalized(0), add_event(0, 0, 9, 1, 2), estimate(0, 0, 1)]
        self.assertEqual(ask(old + new)[4:], [[0], [0, 1, 2], NOT_ENOUGH, [1], [0, 0, 1]])
        asked = [status(), model_info(0), true_value(0)]
        self.assertEqual(ask(old + [set_truth(0, 1, [8, 9]), create(2, 2)] + asked)[6:],
                         [[2, 2, 0, 0], [2, 0, 1, 0, 1], [0, 0, 1]])

    def test_other_numbers(self):
        calls = [create(1, 1), create(6, 5), propensity(0, 5, 4), create(1, 2), propensity(0, 5, 1), propensity(0, 0, 1)]
        self.assertEqual(ask(calls), [[0], [0], [0, 1, 5], [0], MISSING, [0, 1, 2]])

    def test_refused_keeps_the_old_one(self):
        old = [create(2, 2), set_policy(0, 0, [1, 3]), set_model(0, [40, 60]), add_event(0, 0, 9, 1, 2)]
        for refused in (create(7, 2), create(2, 6), create(0, 0), create(1, 0), create(0, 1)):
            calls = old + [refused, propensity(0, 0, 1), estimate(0, 0, 1), add_event(1, 1, 9, 1, 2)]
            with self.subTest(refused=refused):
                self.assertEqual(ask(calls)[4:], [OUT_OF_LIMITS, [0, 3, 4], [0, 55, 1], [2]])
                self.assertEqual(last(old + [refused, status()]), [2, 2, 1, 9])


if __name__ == "__main__":
    unittest.main()
