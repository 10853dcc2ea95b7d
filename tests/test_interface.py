"""How calls are handed in and how answers are given back."""

import time
import unittest

from logworth.study import answers
from sample_logs import PRIMES
from study_calls import (
    LARGEST, NO_STUDY, OUT_OF_LIMITS, add_event, ask, bootstrap, by_context, compare, copy_policy, create,
    effective_size, estimate, expectation, fit_model, flat, gains, greatest_weight, interval, log_event, model_info,
    normalized, order_measure, precision, propensity, rank_measures, remove_last, replay, set_model, set_policy,
    set_truth, status, true_value, unsupported, variance,
)

ALL_BUT_CREATE = [
    add_event(0, 0, 10, 1, 2),
    remove_last(),
    log_event(0, 0, 0, 10),
    set_policy(0, 0, [1, 1]),
    copy_policy(0, 1),
    set_model(0, [1, 2]),
    fit_model(),
    set_truth(0, 1, [1, 2]),
    propensity(0, 0, 0),
    estimate(0, 1, 100),
    normalized(0),
    replay(0),
    effective_size(0),
    variance(0, 1, 100),
    interval(0, 1, 100, 1),
    compare(0, 1, 1, 100),
    by_context(0, 1, 100),
    greatest_weight(0),
    model_info(0),
    true_value(0),
    expectation(0, 1, 1, 100),
    unsupported(0, 1),
    bootstrap(0, 1, 100, 1, 0),
    precision(1, [1, 0]),
    rank_measures([1, 0]),
    gains([3, 4]),
    order_measure([2, 1]),
    status(),
]


class Form(unittest.TestCase):
    def test_each_answer_has_its_length_before_it(self):
        calls = [0, 2, 2, 1, 0, 1, 9, 1, 2, 9, 0, 0, 1, 10, 3, 0, 1, 12, 0]
        self.assertEqual(answers(calls), [1, 0, 1, 1, 3, 0, 1, 2, 1, -2, 1, -33])

    def test_a_row_has_its_length_before_it(self):
        calls = [0, 1, 3, 4, 0, 0, 3, 2, 3, 5, 9, 0, 0, 1]
        self.assertEqual(answers(calls), [1, 0, 1, 10, 3, 0, 3, 10])

    def test_several_numbers_behind_a_count(self):
        calls = [0, 2, 2, 1, 0, 1, 9, 1, 2, 17, 1, 1, 1, 19, 0, 4, 0, 0, 2, 1, 0, 22, 0, 1, 28]
        self.assertEqual(answers(calls), [
            1, 0, 1, 1, 7, 2, 1, 9, 1, 0, 0, 1, 5, 2, 0, 1, 0, 1, 1, 1, 3, 1, 0, 1, 4, 2, 2, 1, 9,
        ])

    def test_a_row_behind_a_number_and_a_row_alone(self):
        calls = [0, 1, 1, 24, 3, 2, 1, 1, 25, 1, 0, 26, 2, 0, 0, 27, 3, 2, 1, 3]
        self.assertEqual(answers(calls), [1, 0, 3, 0, 2, 3, 5, 0, 0, 1, 0, 1, 1, -33, 4, 2, 1, 1, 3])

    def test_rows_of_any_length_are_taken_whole(self):
        for length in range(13):
            row = [2] * length
            refused = [set_policy(0, 7, row), set_model(7, row), set_truth(7, 1, row)]
            calls = refused + [create(1, 1)] + refused + [propensity(0, 0, 0)]
            with self.subTest(length=length):
                self.assertEqual(ask(calls), [[-11]] * 3 + [[0]] + [[-2]] * 3 + [[0, 1, 1]])
            ranked = [precision(1, row), rank_measures(row), gains([LARGEST] * length), order_measure([LARGEST] * length)]
            with self.subTest(length=length):
                self.assertEqual(ask(ranked + [create(1, 1)] + ranked + [status()]),
                                 [[-11]] * 4 + [[0]] + [[-22]] * 4 + [[1, 1, 0, 0]])

    def test_a_call_by_itself(self):
        self.assertEqual(answers([0, 1, 1]), [1, 0])
        self.assertEqual(answers([2]), [1, -11])

    def test_sixty_calls(self):
        self.assertEqual(ask([create(1, 1)] + [propensity(0, 0, 0)] * 59), [[0]] + [[0, 1, 1]] * 59)

    def test_numbers_are_plain_ints(self):
        for number in answers(flat([create(2, 2)] + ALL_BUT_CREATE + ALL_BUT_CREATE[2:] + [estimate(9, 0, 1)])):
            self.assertIs(number.__class__, int)


class NothingIsKept(unittest.TestCase):
    def test_the_same_list_twice(self):
        calls = flat([create(2, 2)] + ALL_BUT_CREATE + ALL_BUT_CREATE[2:] + [estimate(1, 3, 100)])
        self.assertEqual(answers(calls), answers(calls))

    def test_a_request_begins_without_a_study(self):
        ask([create(2, 2), add_event(0, 0, 10, 1, 2)])
        self.assertEqual(ask([estimate(0, 1, 100)]), [NO_STUDY])

    def test_the_list_handed_in_is_as_it_was(self):
        calls = flat([create(2, 2)] + ALL_BUT_CREATE + [gains([1, 9, 4]), set_policy(0, 0, [3, 1]), copy_policy(0, 2)])
        before = list(calls)
        answers(calls)
        self.assertEqual(calls, before)

    def test_the_answer_is_a_new_list(self):
        calls = flat([create(2, 2), propensity(0, 0, 0)])
        first = answers(calls)
        first.append(7)
        self.assertEqual(answers(calls), [1, 0, 3, 0, 1, 2])


class WithoutStudy(unittest.TestCase):
    def test_each_call_but_create(self):
        for call in ALL_BUT_CREATE:
            with self.subTest(call=call):
                self.assertEqual(ask([call, create(2, 2), call])[:2], [NO_STUDY, [0]])

    def test_comes_before_all_other_checks(self):
        wrong = [
            add_event(9, 9, 999, 0, 0),
            log_event(9, 9, 9, 999),
            set_policy(9, 9, []),
            copy_policy(9, 9),
            set_model(9, [101]),
            set_truth(9, 0, []),
            propensity(9, 9, 9),
            estimate(9, 9, 0),
            normalized(9),
            replay(9),
            effective_size(9),
            variance(9, 9, 0),
            interval(9, 9, 0, 0),
            compare(9, 9, 9, 0),
            by_context(9, 9, 0),
            greatest_weight(9),
            model_info(9),
            true_value(9),
            expectation(9, 9, 9, 0),
            unsupported(9, 9),
            bootstrap(9, 9, 0, 0, LARGEST),
            precision(0, []),
            rank_measures([2]),
            gains([0]),
            gains([]),
            order_measure([1]),
        ]
        self.assertEqual(ask(wrong), [NO_STUDY] * len(wrong))

    def test_a_refused_create_creates_none(self):
        self.assertEqual(ask([create(0, 1), remove_last()]), [OUT_OF_LIMITS, NO_STUDY])
        self.assertEqual(ask([create(0, 1), status(), precision(1, [1])]), [OUT_OF_LIMITS, NO_STUDY, NO_STUDY])


class LongRequests(unittest.TestCase):
    SECONDS = 5

    def check(self, asked):
        policies = [set_policy(0, 0, [997, 991, 983, 977, 971]), set_policy(1, 0, [953, 947, 941, 937, 929])]
        events = [add_event(place % 6, place % 5, 99, PRIMES[place % 14] - place // 14, 1000) for place in range(40)]
        calls = [create(6, 5)] + policies + events + [fit_model()]
        calls += [asked[place % len(asked)] for place in range(60 - len(calls))]
        start = time.perf_counter()
        answered = ask(calls)
        self.assertLess(time.perf_counter() - start, self.SECONDS)
        self.assertEqual(len(answered), 60)
        self.assertTrue(all(len(answer) > 1 for answer in answered[-len(asked):]))

    def test_each_slow_call_by_itself(self):
        for kind in range(4):
            for call in (bootstrap(0, kind, 250, 50, LARGEST), compare(0, 1, kind, 250), interval(0, kind, 250, 9999),
                         by_context(0, kind, 250), expectation(0, 1, kind, 250)):
                with self.subTest(call=call):
                    self.check([call])

    def test_slow_calls_in_turn(self):
        self.check([bootstrap(0, 3, 250, 50, 1), compare(0, 1, 3, 250), effective_size(1), normalized(1)])


if __name__ == "__main__":
    unittest.main()
