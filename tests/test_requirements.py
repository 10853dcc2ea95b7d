"""The requirements that hold for every log, on many logs, and that a refused call changes nothing."""

import random
import unittest
from fractions import Fraction

from study_calls import (
    LOG_FULL, MISSING, NOT_ENOUGH, OUT_OF_LIMITS, add_event, ask, bootstrap, by_context, compare, copy_policy, create,
    effective_size, estimate, expectation, fit_model, gains, greatest_weight, interval, last, log_event, model_info,
    normalized, order_measure, precision, propensity, rank_measures, remove_last, replay, set_model, set_policy,
    set_truth, status, true_value, unsupported, variance,
)


def drawn_weights(draw, actions):
    weights = [draw.choice([0, 1, 1000, draw.randint(0, 1000)]) for action in range(actions)]
    return weights if max(weights) > 0 else [1] * actions


def drawn_study(seed, most_events):
    """The calls that make a study with at least one event, and the rewards of its events."""
    draw = random.Random(seed)
    contexts = draw.randint(1, 4)
    actions = draw.randint(1, 5)
    calls = [create(contexts, actions)]
    for policy in range(2):
        for context in range(contexts):
            calls.append(set_policy(policy, context, drawn_weights(draw, actions)))
    rewards = [draw.randint(0, 100) for place in range(draw.randint(1, most_events))]
    for reward in rewards:
        den = draw.randint(1, 1000)
        context = draw.randrange(contexts)
        calls.append(add_event(context, draw.randrange(actions), reward, draw.randint(1, den), den))
    return calls, rewards


def fractions_of(answer, start):
    """The fractions of an answer from a place on."""
    return [Fraction(*pair) for pair in zip(answer[start::2], answer[start + 1::2])]


class DrawnTruth:
    """A drawn study of two policies with a model and a truth, but without events."""

    def __init__(self, seed):
        draw = random.Random(seed)
        self.contexts = draw.randint(1, 4)
        self.actions = draw.randint(1, 5)
        self.weights = [draw.choice([1, 1000, draw.randint(1, 1000)]) for context in range(self.contexts)]
        self.rewards = [self.drawn_rewards(draw) for context in range(self.contexts)]
        self.estimates = [self.drawn_rewards(draw) for context in range(self.contexts)]
        self.policies = [[drawn_weights(draw, self.actions) for context in range(self.contexts)] for policy in range(2)]
        self.limit = draw.choice([1, 50, 100, 170, 100000])

    def drawn_rewards(self, draw):
        return [draw.choice([0, 100, draw.randint(0, 100)]) for action in range(self.actions)]

    def chance(self, policy, context, action):
        row = self.policies[policy][context]
        return Fraction(self.weights[context], sum(self.weights)) * Fraction(row[action], sum(row))

    def calls(self, estimates):
        """The calls that make the study with these estimated rewards."""
        made = [create(self.contexts, self.actions)]
        for context in range(self.contexts):
            made += [set_policy(policy, context, self.policies[policy][context]) for policy in range(2)]
            made.append(set_model(context, estimates[context]))
            made.append(set_truth(context, self.weights[context], self.rewards[context]))
        return made


class ForEveryTruth(unittest.TestCase):
    def supported_and_expected(self, truth):
        """The pairs without support, the true value, and the expectations of the kinds 1 and 3."""
        calls = truth.calls(truth.estimates)
        asked = [unsupported(0, 1), true_value(1), expectation(0, 1, 1, 1), expectation(0, 1, 3, 1)]
        return ask(calls + asked)[len(calls):]

    def test_unbiased_where_all_is_supported(self):
        supported = 0
        for seed in range(400):
            pairs, value, inverse, robust = self.supported_and_expected(DrawnTruth(seed))
            if pairs == [0]:
                supported += 1
                self.assertEqual(inverse[:3], value, seed)
                self.assertEqual(robust[:3], value, seed)
        self.assertGreater(supported, 100)

    def test_the_bias_is_that_of_the_unsupported_pairs(self):
        biased = 0
        for seed in range(400):
            truth = DrawnTruth(seed)
            pairs, value, inverse, robust = self.supported_and_expected(truth)
            missed = Fraction(0)
            wrong = Fraction(0)
            for context, action in zip(pairs[1::2], pairs[2::2]):
                missed += truth.chance(1, context, action) * truth.rewards[context][action]
                wrong += truth.chance(1, context, action) * truth.estimates[context][action]
            biased += int(missed > 0)
            self.assertEqual(fractions_of(inverse, 1)[0], fractions_of(value, 1)[0] - missed, seed)
            self.assertEqual(fractions_of(robust, 1)[0], fractions_of(value, 1)[0] - missed + wrong, seed)
        self.assertGreater(biased, 50)

    def test_direct_is_exact_with_the_assumed_rewards_as_model(self):
        for seed in range(200):
            truth = DrawnTruth(seed)
            calls = truth.calls(truth.rewards)
            asked = [true_value(1), expectation(0, 1, 0, 1), expectation(1, 1, 0, 1), expectation(2, 1, 0, 1)]
            asked += [expectation(0, 1, 3, 1)]
            answered = ask(calls + asked)[len(calls):]
            for answer in answered[1:]:
                self.assertEqual(answer[:3], answered[0], seed)

    def test_clipping_never_increases_an_expectation(self):
        for seed in range(200):
            truth = DrawnTruth(seed)
            calls = truth.calls(truth.estimates)
            asked = [expectation(0, 1, 2, limit) for limit in (1, 80, 150, 100000)] + [expectation(0, 1, 1, 1)]
            values = [fractions_of(answer, 1)[0] for answer in ask(calls + asked)[len(calls):]]
            self.assertEqual(values, sorted(values), seed)

    def test_an_expectation_is_that_of_one_logged_event(self):
        for seed in range(60):
            truth = DrawnTruth(seed)
            calls = truth.calls(truth.estimates)
            for kind in range(4):
                middle = Fraction(0)
                squares = Fraction(0)
                for context in range(truth.contexts):
                    for action in range(truth.actions):
                        event = log_event(0, context, action, truth.rewards[context][action])
                        answer = last(calls + [event, estimate(1, kind, truth.limit)])
                        if answer != NOT_ENOUGH:
                            term = Fraction(answer[1], answer[2])
                            middle += truth.chance(0, context, action) * term
                            squares += truth.chance(0, context, action) * term ** 2
                answer = last(calls + [expectation(0, 1, kind, truth.limit)])
                self.assertEqual(fractions_of(answer, 1), [middle, squares - middle ** 2], seed)


class ForEveryLog(unittest.TestCase):
    def test_clipping_never_increases_an_estimate(self):
        for seed in range(150):
            calls, rewards = drawn_study(seed, 12)
            limits = [1, 50, 100, 333, 1000, 100000]
            answered = ask(calls + [estimate(0, 1, 1)] + [estimate(0, 2, limit) for limit in limits])[len(calls):]
            values = [Fraction(answer[1], answer[2]) for answer in answered]
            self.assertTrue(all(value <= values[0] for value in values), seed)
            self.assertEqual(values[1:], sorted(values[1:]), seed)

    def test_clipping_never_increases_what_is_made_of_terms(self):
        for seed in range(100):
            calls, rewards = drawn_study(seed, 12)
            asked = [by_context(0, 2, 60), by_context(0, 1, 60), bootstrap(0, 2, 60, 20, seed), bootstrap(0, 1, 60, 20, seed)]
            answered = ask(calls + asked)[len(calls):]
            contexts = answered[0][0]
            for place in range(contexts):
                clipped, whole = [answer[1 + 3 * place:4 + 3 * place] for answer in answered[:2]]
                self.assertEqual(clipped[0], whole[0])
                self.assertLessEqual(Fraction(*clipped[1:]), Fraction(*whole[1:]), seed)
            for clipped, whole in zip(fractions_of(answered[2], 1), fractions_of(answered[3], 1)):
                self.assertLessEqual(clipped, whole, seed)

    def test_the_parts_of_a_log_make_up_the_whole(self):
        for seed in range(100):
            calls, rewards = drawn_study(seed, 40)
            answered = ask(calls + [by_context(0, 3, 1), estimate(0, 3, 1), status()])[len(calls):]
            counts = answered[0][1::3]
            means = [Fraction(*pair) for pair in zip(answered[0][2::3], answered[0][3::3])]
            self.assertEqual(sum(counts), len(rewards), seed)
            self.assertEqual(sum(count * mean for count, mean in zip(counts, means)) / len(rewards),
                             Fraction(*answered[1][1:]), seed)
            self.assertEqual(answered[2], calls[0][1:] + [len(rewards), sum(rewards)], seed)

    def test_resampled_estimates_lie_in_their_order(self):
        for seed in range(100):
            calls, rewards = drawn_study(seed, 12)
            values = fractions_of(last(calls + [bootstrap(0, 3, 1, 1 + seed % 50, seed)]), 1)
            self.assertEqual(values, sorted(values), seed)

    def test_normalized_lies_between_the_rewards(self):
        for seed in range(150):
            calls, rewards = drawn_study(seed, 40)
            answer = last(calls + [normalized(0)])
            if answer != NOT_ENOUGH:
                value = Fraction(answer[1], answer[2])
                self.assertTrue(min(rewards) <= value <= max(rewards), seed)

    def test_effective_size_is_positive_and_at_most_the_number_of_events(self):
        for seed in range(150):
            calls, rewards = drawn_study(seed, 40)
            answer = last(calls + [effective_size(0)])
            if answer != NOT_ENOUGH:
                self.assertTrue(0 < Fraction(answer[1], answer[2]) <= len(rewards), seed)

    def test_fractions_are_in_lowest_terms(self):
        for seed in range(60):
            calls, rewards = drawn_study(seed, 12)
            asked = [estimate(0, 3, 1), estimate(0, 2, 150), normalized(0), effective_size(0), variance(0, 1, 1)]
            asked += [interval(0, 1, 1, 12), compare(0, 1, 3, 1), greatest_weight(0), set_truth(0, 6, [60] * calls[0][2])]
            asked += [true_value(0), expectation(0, 1, 3, 1), bootstrap(0, 3, 1, 6, seed), fit_model(), model_info(0)]
            for answer in ask(calls + asked)[len(calls):]:
                for numerator, denominator in zip(answer[1::2], answer[2::2]):
                    value = Fraction(numerator, denominator)
                    self.assertEqual([numerator, denominator], [value.numerator, value.denominator], seed)


class ThePolicyThatMadeAnEvent(unittest.TestCase):
    CALLS = [
        create(2, 3),
        set_policy(1, 0, [1, 2, 3]),
        set_policy(1, 1, [7, 0, 1000]),
        log_event(1, 0, 2, 10),
        log_event(1, 0, 0, 20),
        log_event(1, 1, 0, 60),
        log_event(1, 1, 2, 90),
    ]

    def test_all_importances_are_1(self):
        asked = [estimate(1, 1, 1), estimate(1, 2, 100), normalized(1), effective_size(1), greatest_weight(1)]
        self.assertEqual(ask(self.CALLS + asked)[7:], [[0, 45, 1]] * 3 + [[0, 4, 1], [0, 1, 1]])

    def test_drawn_policies(self):
        for seed in range(100):
            draw = random.Random(seed)
            weights = drawn_weights(draw, 4)
            calls = [create(2, 4), set_policy(2, 1, weights)]
            actions = [action for action in range(4) if weights[action] > 0]
            events = [log_event(2, 1, draw.choice(actions), draw.randint(0, 100)) for place in range(draw.randint(1, 9))]
            asked = [greatest_weight(2), effective_size(2)]
            self.assertEqual(ask(calls + events + asked)[-2:], [[0, 1, 1], [0, len(events), 1]], seed)
            # Another context of the same policy and another policy in the same context may change.
            changes = [set_policy(2, 0, drawn_weights(draw, 4)), set_policy(0, 1, drawn_weights(draw, 4))]
            self.assertEqual(ask(calls + events + changes + asked)[-2:], [[0, 1, 1], [0, len(events), 1]], seed)

    def test_another_context_and_another_policy_may_change(self):
        for event, reward in ((log_event(1, 0, 2, 10), 10), (log_event(1, 0, 0, 20), 20)):
            changes = [set_policy(1, 1, [5, 6, 7]), set_policy(0, 0, [9, 1, 1]), copy_policy(0, 2)]
            self.assertEqual(last(self.CALLS[:3] + [event] + changes + [estimate(1, 1, 1)]), [0, reward, 1])


class RankedLists(unittest.TestCase):
    def test_no_measure_is_more_than_the_ideal_one(self):
        draw = random.Random(31)
        for turn in range(300):
            length = draw.randint(1, 12)
            relevance = [draw.randint(0, 1) for rank in range(length)]
            numbers = [draw.choice([0, 1, 100, draw.randint(0, 100)]) for rank in range(length)]
            best = sorted(numbers, reverse=True)
            asked = [rank_measures(relevance), gains(numbers), gains(best)]
            measures, gain, ideal = ask([create(1, 1)] + asked)[1:]
            self.assertTrue(all(0 <= value <= 1 for value in fractions_of(measures, 1)), relevance)
            if max(numbers) == 0:
                self.assertEqual(gain, NOT_ENOUGH)
            else:
                self.assertLessEqual(fractions_of(gain, 1)[0], fractions_of(ideal, 1)[0], numbers)
                self.assertTrue(0 < fractions_of(gain, 1)[1] <= 1, numbers)
                self.assertEqual(ideal[3:], [1, 1], numbers)


class Refused(unittest.TestCase):
    STUDY = [
        create(2, 2),
        set_policy(0, 0, [1, 0]),
        set_policy(0, 1, [1, 3]),
        set_policy(2, 1, [5, 2]),
        set_model(0, [20, 41]),
        set_model(1, [3, 97]),
        set_truth(1, 3, [4, 8]),
        add_event(0, 0, 10, 1, 2),
        add_event(1, 1, 8, 3, 4),
    ]
    LOOK = [propensity(policy, context, 1) for policy in range(3) for context in range(2)] + [
        look(policy, kind, 30) for policy in range(3) for kind in range(4) for look in (estimate, variance)
    ] + [status(), model_info(0), model_info(1), true_value(0), true_value(1), true_value(2), expectation(1, 2, 3, 1)]
    LOOK += [normalized(0), replay(0), effective_size(0), remove_last(), estimate(1, 0, 1), estimate(1, 1, 1), status()]

    def check(self, study, look, call, code):
        with self.subTest(call=call):
            answered = ask(study + [call] + look)
            self.assertEqual(answered[len(study)], code)
            self.assertEqual(answered[len(study) + 1:], ask(study + look)[len(study):])

    def test_the_state_is_as_it_was(self):
        refused = [
            (MISSING, [
                add_event(2, 0, 1, 1, 2), add_event(0, 2, 1, 1, 2), log_event(3, 0, 0, 1), log_event(0, 2, 0, 1),
                log_event(0, 0, 2, 1), set_policy(3, 0, [9, 9]), set_policy(0, 2, [9, 9]), copy_policy(3, 0),
                copy_policy(0, 3), set_model(2, [9, 9]), set_truth(2, 9, [9, 9]), propensity(3, 0, 0),
                estimate(3, 0, 1), normalized(3), replay(3), effective_size(3), variance(3, 0, 1),
                interval(3, 0, 1, 1), compare(3, 0, 0, 1), compare(0, 3, 0, 1), by_context(3, 0, 1), greatest_weight(3),
                model_info(2), true_value(3), expectation(3, 0, 0, 1), expectation(0, 3, 0, 1), unsupported(3, 0),
                unsupported(0, 3), bootstrap(3, 0, 1, 1, 0),
            ]),
            (OUT_OF_LIMITS, [
                create(0, 2), create(7, 2), create(2, 0), create(2, 6), add_event(0, 0, 101, 1, 2),
                add_event(0, 0, 1, 0, 2), add_event(0, 0, 1, 3, 2), add_event(0, 0, 1, 1, 1001),
                log_event(0, 0, 0, 101), set_policy(0, 0, [9]), set_policy(0, 0, [9, 1001]),
                set_policy(0, 0, [0, 0]), set_policy(0, 0, [9, 9, 9]), set_model(0, []), set_model(0, [9, 101]),
                set_truth(0, 0, [9, 9]), set_truth(0, 9, [9, 101]), estimate(0, 4, 1), estimate(0, 2, 0),
                variance(0, 0, 100001), interval(0, 4, 1, 1), interval(0, 0, 1, 0), interval(0, 0, 1, 10001),
                compare(0, 1, 4, 1), compare(0, 1, 2, 0), by_context(0, 4, 1), by_context(0, 2, 0),
                expectation(0, 1, 4, 1), expectation(0, 1, 2, 100001), bootstrap(0, 4, 1, 1, 0),
                bootstrap(0, 0, 1, 0, 0), bootstrap(0, 0, 1, 51, 0), precision(0, [1]), precision(13, [1]),
                precision(1, [2]), rank_measures([]), rank_measures([2]), gains([]), gains([101]), order_measure([1]),
                order_measure([1, 1001]),
            ]),
            (NOT_ENOUGH, [log_event(0, 0, 1, 5), gains([0, 0])]),
        ]
        for code, calls in refused:
            for call in calls:
                self.check(self.STUDY, self.LOOK, call, code)

    def test_the_state_is_as_it_was_without_events(self):
        study = [call for call in self.STUDY if call[0] != 1]
        look = self.LOOK[:6] + [add_event(1, 0, 50, 1, 3)] + [estimate(policy, 3, 1) for policy in range(3)]
        refused = [
            remove_last(), estimate(0, 0, 1), normalized(0), replay(0), effective_size(0), variance(0, 0, 1),
            interval(0, 0, 1, 1), compare(0, 1, 0, 1), by_context(0, 0, 1), greatest_weight(0), bootstrap(0, 0, 1, 1, 0),
        ]
        for call in refused:
            self.check(study, look, call, NOT_ENOUGH)

    def test_the_state_is_as_it_was_after_each_call_that_only_asks(self):
        asked = [
            propensity(0, 1, 1), estimate(0, 1, 1), normalized(1), replay(0), effective_size(1), variance(0, 3, 1),
            interval(0, 3, 1, 9), compare(0, 1, 3, 1), by_context(1, 2, 70), greatest_weight(0), model_info(1),
            true_value(0), expectation(1, 0, 3, 1), unsupported(0, 1), bootstrap(0, 3, 1, 50, 7), precision(2, [1, 0, 1]),
            rank_measures([0, 1]), gains([1, 5, 3]), order_measure([2, 1, 4]), status(),
        ]
        before = ask(self.STUDY + self.LOOK)[len(self.STUDY):]
        for call in asked:
            with self.subTest(call=call):
                answered = ask(self.STUDY + [call] + self.LOOK)[len(self.STUDY):]
                self.assertGreater(len(answered[0]), 1)
                self.assertEqual(answered[1:], before)

    def test_the_state_is_as_it_was_when_the_log_is_full(self):
        study = [create(2, 2)] + [add_event(0, 0, reward, 1, 2) for reward in range(40)]
        look = [estimate(0, 1, 1), effective_size(1), remove_last(), estimate(0, 1, 1)]
        for call in (add_event(1, 1, 90, 1, 9), log_event(2, 1, 1, 90)):
            self.check(study, look, call, LOG_FULL)


if __name__ == "__main__":
    unittest.main()
