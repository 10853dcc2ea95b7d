"""The document's own examples, in one request."""

import unittest

from study_calls import (
    MISSING, NOT_ENOUGH, OUT_OF_LIMITS, add_event, ask, bootstrap, by_context, compare, create, effective_size,
    estimate, expectation, fit_model, gains, greatest_weight, interval, log_event, model_info, normalized,
    order_measure, precision, propensity, rank_measures, remove_last, replay, set_policy, set_truth, status,
    true_value, unsupported, variance,
)

ROWS = [
    (create(2, 2), [0]),
    (add_event(0, 0, 10, 1, 2), [1]),
    (add_event(0, 1, 4, 1, 2), [2]),
    (add_event(1, 0, 6, 1, 4), [3]),
    (add_event(1, 1, 8, 3, 4), [4]),
    (set_policy(0, 0, [1, 0]), [1]),
    (set_policy(0, 1, [1, 3]), [4]),
    (propensity(0, 1, 1), [0, 3, 4]),
    (estimate(0, 1, 100), [0, 17, 2]),
    (normalized(0), [0, 17, 2]),
    (effective_size(0), [0, 8, 3]),
    (estimate(0, 2, 150), [0, 29, 4]),
    (variance(0, 1, 100), [0, 211, 12]),
    (interval(0, 1, 100, 9), [0, 17, 2, 633, 4]),
    (replay(0), [2, 9, 1]),
    (fit_model(), [4]),
    (model_info(0), [2, 10, 1, 4, 1]),
    (estimate(0, 0, 1), [0, 35, 4]),
    (estimate(0, 3, 1), [0, 35, 4]),
    (by_context(0, 1, 100), [2, 2, 10, 1, 2, 7, 1]),
    (greatest_weight(0), [0, 2, 1]),
    (set_truth(0, 1, [10, 2]), [0]),
    (set_truth(1, 3, [4, 8]), [0]),
    (true_value(0), [0, 31, 4]),
    (expectation(1, 0, 1, 100), [0, 31, 4, 727, 16]),
    (unsupported(0, 1), [1, 0, 1]),
    (compare(0, 1, 1, 100), [0, 2, 3, 118, 9]),
    (bootstrap(0, 1, 100, 1, 0), [0, 15, 1, 15, 1, 15, 1]),
    (precision(2, [1, 0, 1]), [0, 1, 2]),
    (rank_measures([0, 1, 1]), [2, 7, 12, 1, 2]),
    (gains([3, 2, 3]), [0, 5, 1, 30, 31]),
    (order_measure([1, 3, 2]), [2, 1, 1, 3]),
    (log_event(0, 0, 1, 5), NOT_ENOUGH),
    (log_event(0, 1, 1, 7), [5]),
    (remove_last(), [4]),
    (add_event(0, 0, 1, 3, 2), OUT_OF_LIMITS),
    (estimate(3, 1, 100), MISSING),
    (status(), [2, 2, 4, 28]),
]


class Examples(unittest.TestCase):
    def test_the_whole_request(self):
        answered = ask([call for call, answer in ROWS])
        self.assertEqual(len(answered), len(ROWS))
        for (call, answer), given in zip(ROWS, answered):
            with self.subTest(call=call):
                self.assertEqual(given, answer)


if __name__ == "__main__":
    unittest.main()
