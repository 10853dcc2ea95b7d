"""add_event, remove_last and log_event."""

import unittest

from study_calls import (
    LARGEST, LOG_FULL, MISSING, NOT_ENOUGH, OUT_OF_LIMITS, add_event, ask, create, estimate, last, log_event,
    normalized, remove_last, replay, set_policy, status,
)

FULL = [create(2, 2)] + [add_event(0, 0, 10, 1, 2)] * 40


class AddEvent(unittest.TestCase):
    def test_counts_the_events(self):
        calls = [create(2, 2), add_event(0, 0, 10, 1, 2), add_event(1, 1, 4, 3, 4), add_event(0, 1, 4, 3, 4)]
        self.assertEqual(ask(calls), [[0], [1], [2], [3]])

    def test_keeps_what_it_is_given(self):
        # The policy chooses the actions of context 1 with 1/4 and 3/4: importances 1/4 : 2/5 and 3/4 : 1/8.
        calls = [
            create(2, 2),
            set_policy(0, 1, [1, 3]),
            add_event(1, 0, 16, 2, 5),
            estimate(0, 1, 1),
            remove_last(),
            add_event(1, 1, 7, 1, 8),
            estimate(0, 1, 1),
        ]
        self.assertEqual(ask(calls)[3:], [[0, 10, 1], [0], [1], [0, 42, 1]])

    def test_rewards(self):
        for reward, answer in ((0, [0, 0, 1]), (1, [0, 1, 1]), (100, [0, 100, 1])):
            with self.subTest(reward=reward):
                calls = [create(1, 1), add_event(0, 0, reward, 1, 1), estimate(0, 1, 1)]
                self.assertEqual(ask(calls), [[0], [1], answer])
        for reward in (101, LARGEST):
            with self.subTest(reward=reward):
                self.assertEqual(last([create(1, 1), add_event(0, 0, reward, 1, 1)]), OUT_OF_LIMITS)

    def test_propensities(self):
        accepted = {(1, 1): 1, (1, 1000): 1000, (1000, 1000): 1, (7, 7): 1, (1, 2): 2, (500, 1000): 2}
        for (num, den), importance in accepted.items():
            with self.subTest(num=num, den=den):
                calls = [create(1, 1), add_event(0, 0, 1, num, den), estimate(0, 1, 1)]
                self.assertEqual(ask(calls), [[0], [1], [0, importance, 1]])
        refused = [(0, 1), (0, 0), (1, 0), (2, 1), (1000, 999), (1, 1001), (1001, 1001), (1001, 1000), (LARGEST, LARGEST)]
        for num, den in refused:
            with self.subTest(num=num, den=den):
                self.assertEqual(last([create(1, 1), add_event(0, 0, 1, num, den)]), OUT_OF_LIMITS)

    def test_a_context_or_an_action_that_does_not_exist(self):
        for context, action in ((2, 0), (0, 3), (2, 3), (LARGEST, 0), (0, LARGEST)):
            with self.subTest(context=context, action=action):
                self.assertEqual(last([create(2, 3), add_event(context, action, 1, 1, 2)]), MISSING)
        self.assertEqual(last([create(2, 3), add_event(1, 2, 1, 1, 2)]), [1])

    def test_forty_and_one_more(self):
        answered = ask(FULL + [add_event(0, 0, 10, 1, 2), add_event(1, 1, 0, 1, 1)])
        self.assertEqual(answered[1:41], [[count] for count in range(1, 41)])
        self.assertEqual(answered[41:], [LOG_FULL, LOG_FULL])

    def test_room_again_after_removing(self):
        calls = FULL + [remove_last(), add_event(1, 1, 0, 1, 1), add_event(1, 1, 0, 1, 1)]
        self.assertEqual(ask(calls)[41:], [[39], [40], LOG_FULL])

    def test_order_of_errors(self):
        self.assertEqual(last([create(2, 2), add_event(2, 0, 101, 1, 2)]), MISSING)
        self.assertEqual(last([create(2, 2), add_event(0, 2, 1, 2, 1)]), MISSING)
        self.assertEqual(last(FULL + [add_event(2, 0, 1, 1, 2)]), MISSING)
        self.assertEqual(last(FULL + [add_event(0, 0, 101, 1, 2)]), OUT_OF_LIMITS)
        self.assertEqual(last(FULL + [add_event(0, 0, 1, 0, 2)]), OUT_OF_LIMITS)


class RemoveLast(unittest.TestCase):
    def test_removes_the_last_one(self):
        calls = [
            create(1, 1),
            add_event(0, 0, 10, 1, 1),
            add_event(0, 0, 20, 1, 1),
            add_event(0, 0, 90, 1, 1),
            remove_last(),
            estimate(0, 1, 1),
            remove_last(),
            estimate(0, 1, 1),
        ]
        self.assertEqual(ask(calls)[4:], [[2], [0, 15, 1], [1], [0, 10, 1]])

    def test_none_left(self):
        calls = [create(1, 1), remove_last(), add_event(0, 0, 10, 1, 1), remove_last(), remove_last()]
        self.assertEqual(ask(calls), [[0], NOT_ENOUGH, [1], [0], NOT_ENOUGH])


class LogEvent(unittest.TestCase):
    def test_the_propensity_is_that_of_the_policy(self):
        # Logged with 3/4; another policy chooses the action with 1/2, so the importance is 2/3.
        calls = [create(2, 2), set_policy(0, 1, [1, 3]), log_event(0, 1, 1, 8), estimate(1, 1, 1), estimate(0, 1, 1)]
        self.assertEqual(ask(calls), [[0], [4], [1], [0, 16, 3], [0, 8, 1]])

    def test_the_propensity_stays_when_the_policy_changes(self):
        calls = [create(1, 2), set_policy(0, 0, [1, 3]), log_event(0, 0, 1, 8), set_policy(0, 0, [1, 1])]
        self.assertEqual(last(calls + [estimate(0, 1, 1)]), [0, 16, 3])

    def test_a_propensity_below_those_of_add_event(self):
        weights = [1, 1000, 1000, 1000, 1000]
        calls = [create(1, 5), set_policy(2, 0, weights), log_event(2, 0, 0, 100), estimate(0, 1, 1)]
        self.assertEqual(last(calls), [0, 80020, 1])

    def test_keeps_context_action_and_reward(self):
        calls = [create(2, 2), set_policy(2, 1, [0, 1]), log_event(0, 1, 1, 30), log_event(1, 1, 0, 50)]
        self.assertEqual(last(calls + [replay(2)]), [1, 30, 1])
        self.assertEqual(last(calls + [replay(1)]), [1, 50, 1])

    def test_rewards(self):
        self.assertEqual(ask([create(1, 1), log_event(0, 0, 0, 0), log_event(0, 0, 0, 100), normalized(0)])[1:],
                         [[1], [2], [0, 50, 1]])
        for reward in (101, LARGEST):
            self.assertEqual(last([create(1, 1), log_event(0, 0, 0, reward)]), OUT_OF_LIMITS)

    def test_missing(self):
        for policy, context, action in ((3, 0, 0), (0, 2, 0), (0, 0, 3), (LARGEST, 0, 0), (0, LARGEST, LARGEST)):
            with self.subTest(policy=policy, context=context, action=action):
                self.assertEqual(last([create(2, 3), log_event(policy, context, action, 1)]), MISSING)
        self.assertEqual(last([create(2, 3), log_event(2, 1, 2, 1)]), [1])

    def test_an_action_that_the_policy_never_chooses(self):
        calls = [create(2, 2), set_policy(0, 0, [1, 0])]
        self.assertEqual(last(calls + [log_event(0, 0, 1, 5)]), NOT_ENOUGH)
        self.assertEqual(last(calls + [log_event(0, 0, 0, 5)]), [1])
        self.assertEqual(last(calls + [log_event(0, 1, 1, 5)]), [1])
        self.assertEqual(last(calls + [log_event(1, 0, 1, 5)]), [1])

    def test_the_reward_sum_of_the_log(self):
        self.assertEqual(ask([create(2, 2), log_event(0, 0, 0, 9), log_event(0, 1, 1, 70), status()])[-1], [2, 2, 2, 79])

    def test_forty_and_one_more(self):
        answered = ask([create(2, 2)] + [log_event(0, 0, 0, 10)] * 41)
        self.assertEqual(answered[40:], [[40], LOG_FULL])

    def test_order_of_errors(self):
        never = FULL + [set_policy(0, 0, [1, 0])]
        self.assertEqual(last(never + [log_event(3, 0, 1, 101)]), MISSING)
        self.assertEqual(last(never + [log_event(0, 2, 1, 101)]), MISSING)
        self.assertEqual(last(never + [log_event(0, 0, 2, 5)]), MISSING)
        self.assertEqual(last(never + [log_event(0, 0, 1, 101)]), OUT_OF_LIMITS)
        self.assertEqual(last(never + [log_event(0, 0, 1, 5)]), NOT_ENOUGH)
        self.assertEqual(last(never + [log_event(0, 0, 0, 101)]), OUT_OF_LIMITS)
        self.assertEqual(last(never + [log_event(0, 0, 0, 5)]), LOG_FULL)


if __name__ == "__main__":
    unittest.main()
