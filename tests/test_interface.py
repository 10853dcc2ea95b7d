"""How calls are handed in and how answers are given back."""

import unittest

from logworth.study import answers
from study_calls import (
    NO_STUDY, OUT_OF_LIMITS, add_event, ask, copy_policy, create, effective_size, estimate, fit_model, flat,
    log_event, normalized, propensity, remove_last, replay, set_model, set_policy, set_truth, variance,
)

ALL_BUT_CREATE = [
    add_event(0, 0, 10, 1, 2),
    remove_last(),
    log_event(0, 0, 0, 10),
    set_policy(0, 0, [1, 1]),
    copy_policy(0, 1),
    set_model(0, [1, 2]),
    fit_model(),
    set_truth(0, 1, [1, 2]),
    propensity(0, 0, 0),
    estimate(0, 1, 100),
    normalized(0),
    replay(0),
    effective_size(0),
    variance(0, 1, 100),
]


class Form(unittest.TestCase):
    def test_each_answer_has_its_length_before_it(self):
        calls = [0, 2, 2, 1, 0, 1, 9, 1, 2, 9, 0, 0, 1, 10, 3, 0, 1, 12, 0]
        self.assertEqual(answers(calls), [1, 0, 1, 1, 3, 0, 1, 2, 1, -2, 1, -33])

    def test_a_row_has_its_length_before_it(self):
        calls = [0, 1, 3, 4, 0, 0, 3, 2, 3, 5, 9, 0, 0, 1]
        self.assertEqual(answers(calls), [1, 0, 1, 10, 3, 0, 3, 10])

    def test_rows_of_any_length_are_taken_whole(self):
        for length in range(13):
            row = [2] * length
            refused = [set_policy(0, 7, row), set_model(7, row), set_truth(7, 1, row)]
            calls = refused + [create(1, 1)] + refused + [propensity(0, 0, 0)]
            with self.subTest(length=length):
                self.assertEqual(ask(calls), [[-11]] * 3 + [[0]] + [[-2]] * 3 + [[0, 1, 1]])

    def test_a_call_by_itself(self):
        self.assertEqual(answers([0, 1, 1]), [1, 0])
        self.assertEqual(answers([2]), [1, -11])

    def test_sixty_calls(self):
        self.assertEqual(ask([create(1, 1)] + [propensity(0, 0, 0)] * 59), [[0]] + [[0, 1, 1]] * 59)

    def test_numbers_are_plain_ints(self):
        for number in answers(flat([create(2, 2)] + ALL_BUT_CREATE + [estimate(9, 0, 1)])):
            self.assertIs(number.__class__, int)


class NothingIsKept(unittest.TestCase):
    def test_the_same_list_twice(self):
        calls = flat([create(2, 2)] + ALL_BUT_CREATE + [log_event(0, 1, 1, 4), estimate(1, 3, 100)])
        self.assertEqual(answers(calls), answers(calls))

    def test_a_request_begins_without_a_study(self):
        ask([create(2, 2), add_event(0, 0, 10, 1, 2)])
        self.assertEqual(ask([estimate(0, 1, 100)]), [NO_STUDY])

    def test_the_list_handed_in_is_as_it_was(self):
        calls = flat([create(2, 2)] + ALL_BUT_CREATE + [set_policy(0, 0, [3, 1]), copy_policy(0, 2)])
        before = list(calls)
        answers(calls)
        self.assertEqual(calls, before)

    def test_the_answer_is_a_new_list(self):
        calls = flat([create(2, 2), propensity(0, 0, 0)])
        first = answers(calls)
        first.append(7)
        self.assertEqual(answers(calls), [1, 0, 3, 0, 1, 2])


class WithoutStudy(unittest.TestCase):
    def test_each_call_but_create(self):
        for call in ALL_BUT_CREATE:
            with self.subTest(call=call):
                self.assertEqual(ask([call, create(2, 2), call])[:2], [NO_STUDY, [0]])

    def test_comes_before_all_other_checks(self):
        wrong = [
            add_event(9, 9, 999, 0, 0),
            log_event(9, 9, 9, 999),
            set_policy(9, 9, []),
            copy_policy(9, 9),
            set_model(9, [101]),
            set_truth(9, 0, []),
            propensity(9, 9, 9),
            estimate(9, 9, 0),
            normalized(9),
            replay(9),
            effective_size(9),
            variance(9, 9, 0),
        ]
        self.assertEqual(ask(wrong), [NO_STUDY] * len(wrong))

    def test_a_refused_create_creates_none(self):
        self.assertEqual(ask([create(0, 1), remove_last()]), [OUT_OF_LIMITS, NO_STUDY])


if __name__ == "__main__":
    unittest.main()
