"""The requirements that hold for every log, on many logs, and that a refused call changes nothing."""

import random
import unittest
from fractions import Fraction

from study_calls import (
    LOG_FULL, MISSING, NOT_ENOUGH, OUT_OF_LIMITS, add_event, ask, copy_policy, create, effective_size, estimate,
    last, log_event, normalized, propensity, remove_last, replay, set_model, set_policy, set_truth, variance,
)


def drawn_weights(draw, actions):
    weights = [draw.choice([0, 1, 1000, draw.randint(0, 1000)]) for action in range(actions)]
    return weights if max(weights) > 0 else [1] * actions


def drawn_study(seed, most_events):
    """The calls that make a study with at least one event, and the rewards of its events."""
    draw = random.Random(seed)
    contexts = draw.randint(1, 4)
    actions = draw.randint(1, 5)
    calls = [create(contexts, actions)]
    for policy in range(2):
        for context in range(contexts):
            calls.append(set_policy(policy, context, drawn_weights(draw, actions)))
    rewards = [draw.randint(0, 100) for place in range(draw.randint(1, most_events))]
    for reward in rewards:
        den = draw.randint(1, 1000)
        context = draw.randrange(contexts)
        calls.append(add_event(context, draw.randrange(actions), reward, draw.randint(1, den), den))
    return calls, rewards


class ForEveryLog(unittest.TestCase):
    def test_clipping_never_increases_an_estimate(self):
        for seed in range(150):
            calls, rewards = drawn_study(seed, 12)
            limits = [1, 50, 100, 333, 1000, 100000]
            answered = ask(calls + [estimate(0, 1, 1)] + [estimate(0, 2, limit) for limit in limits])[len(calls):]
            values = [Fraction(answer[1], answer[2]) for answer in answered]
            self.assertTrue(all(value <= values[0] for value in values), seed)
            self.assertEqual(values[1:], sorted(values[1:]), seed)

    def test_normalized_lies_between_the_rewards(self):
        for seed in range(150):
            calls, rewards = drawn_study(seed, 40)
            answer = last(calls + [normalized(0)])
            if answer != NOT_ENOUGH:
                value = Fraction(answer[1], answer[2])
                self.assertTrue(min(rewards) <= value <= max(rewards), seed)

    def test_effective_size_is_positive_and_at_most_the_number_of_events(self):
        for seed in range(150):
            calls, rewards = drawn_study(seed, 40)
            answer = last(calls + [effective_size(0)])
            if answer != NOT_ENOUGH:
                self.assertTrue(0 < Fraction(answer[1], answer[2]) <= len(rewards), seed)

    def test_fractions_are_in_lowest_terms(self):
        for seed in range(60):
            calls, rewards = drawn_study(seed, 12)
            asked = [estimate(0, 3, 1), estimate(0, 2, 150), normalized(0), effective_size(0), variance(0, 1, 1)]
            for answer in ask(calls + asked)[len(calls):]:
                if len(answer) > 1:
                    value = Fraction(answer[1], answer[2])
                    self.assertEqual(answer[1:], [value.numerator, value.denominator], seed)


class ThePolicyThatMadeAnEvent(unittest.TestCase):
    CALLS = [
        create(2, 3),
        set_policy(1, 0, [1, 2, 3]),
        set_policy(1, 1, [7, 0, 1000]),
        log_event(1, 0, 2, 10),
        log_event(1, 0, 0, 20),
        log_event(1, 1, 0, 60),
        log_event(1, 1, 2, 90),
    ]

    def test_all_importances_are_1(self):
        asked = [estimate(1, 1, 1), estimate(1, 2, 100), normalized(1), effective_size(1)]
        self.assertEqual(ask(self.CALLS + asked)[7:], [[0, 45, 1]] * 3 + [[0, 4, 1]])

    def test_another_context_and_another_policy_may_change(self):
        for event, reward in ((log_event(1, 0, 2, 10), 10), (log_event(1, 0, 0, 20), 20)):
            changes = [set_policy(1, 1, [5, 6, 7]), set_policy(0, 0, [9, 1, 1]), copy_policy(0, 2)]
            self.assertEqual(last(self.CALLS[:3] + [event] + changes + [estimate(1, 1, 1)]), [0, reward, 1])


class Refused(unittest.TestCase):
    STUDY = [
        create(2, 2),
        set_policy(0, 0, [1, 0]),
        set_policy(0, 1, [1, 3]),
        set_policy(2, 1, [5, 2]),
        set_model(0, [20, 41]),
        set_model(1, [3, 97]),
        set_truth(1, 3, [4, 8]),
        add_event(0, 0, 10, 1, 2),
        add_event(1, 1, 8, 3, 4),
    ]
    LOOK = [propensity(policy, context, 1) for policy in range(3) for context in range(2)] + [
        look(policy, kind, 30) for policy in range(3) for kind in range(4) for look in (estimate, variance)
    ] + [normalized(0), replay(0), effective_size(0), remove_last(), estimate(1, 0, 1), estimate(1, 1, 1)]

    def check(self, study, look, call, code):
        with self.subTest(call=call):
            answered = ask(study + [call] + look)
            self.assertEqual(answered[len(study)], code)
            self.assertEqual(answered[len(study) + 1:], ask(study + look)[len(study):])

    def test_the_state_is_as_it_was(self):
        refused = [
            (MISSING, [
                add_event(2, 0, 1, 1, 2), add_event(0, 2, 1, 1, 2), log_event(3, 0, 0, 1), log_event(0, 2, 0, 1),
                log_event(0, 0, 2, 1), set_policy(3, 0, [9, 9]), set_policy(0, 2, [9, 9]), copy_policy(3, 0),
                copy_policy(0, 3), set_model(2, [9, 9]), set_truth(2, 9, [9, 9]), propensity(3, 0, 0),
                estimate(3, 0, 1), normalized(3), replay(3), effective_size(3), variance(3, 0, 1),
            ]),
            (OUT_OF_LIMITS, [
                create(0, 2), create(7, 2), create(2, 0), create(2, 6), add_event(0, 0, 101, 1, 2),
                add_event(0, 0, 1, 0, 2), add_event(0, 0, 1, 3, 2), add_event(0, 0, 1, 1, 1001),
                log_event(0, 0, 0, 101), set_policy(0, 0, [9]), set_policy(0, 0, [9, 1001]),
                set_policy(0, 0, [0, 0]), set_policy(0, 0, [9, 9, 9]), set_model(0, []), set_model(0, [9, 101]),
                set_truth(0, 0, [9, 9]), set_truth(0, 9, [9, 101]), estimate(0, 4, 1), estimate(0, 2, 0),
                variance(0, 0, 100001),
            ]),
            (NOT_ENOUGH, [log_event(0, 0, 1, 5)]),
        ]
        for code, calls in refused:
            for call in calls:
                self.check(self.STUDY, self.LOOK, call, code)

    def test_the_state_is_as_it_was_without_events(self):
        study = [call for call in self.STUDY if call[0] != 1]
        look = self.LOOK[:6] + [add_event(1, 0, 50, 1, 3)] + [estimate(policy, 3, 1) for policy in range(3)]
        for call in (remove_last(), estimate(0, 0, 1), normalized(0), replay(0), effective_size(0), variance(0, 0, 1)):
            self.check(study, look, call, NOT_ENOUGH)

    def test_the_state_is_as_it_was_when_the_log_is_full(self):
        study = [create(2, 2)] + [add_event(0, 0, reward, 1, 2) for reward in range(40)]
        look = [estimate(0, 1, 1), effective_size(1), remove_last(), estimate(0, 1, 1)]
        for call in (add_event(1, 1, 90, 1, 9), log_event(2, 1, 1, 90)):
            self.check(study, look, call, LOG_FULL)


if __name__ == "__main__":
    unittest.main()
