"""The document's own examples, in one request."""

import unittest

from study_calls import (
    add_event, ask, create, effective_size, estimate, fit_model, log_event, normalized, propensity, remove_last,
    replay, set_policy, set_truth, variance,
)

ROWS = [
    (create(2, 2), [0]),
    (add_event(0, 0, 10, 1, 2), [1]),
    (add_event(0, 1, 4, 1, 2), [2]),
    (add_event(1, 0, 6, 1, 4), [3]),
    (add_event(1, 1, 8, 3, 4), [4]),
    (set_policy(0, 0, [1, 0]), [1]),
    (set_policy(0, 1, [1, 3]), [4]),
    (propensity(0, 1, 1), [0, 3, 4]),
    (estimate(0, 1, 100), [0, 17, 2]),
    (normalized(0), [0, 17, 2]),
    (effective_size(0), [0, 8, 3]),
    (estimate(0, 2, 150), [0, 29, 4]),
    (variance(0, 1, 100), [0, 211, 12]),
    (replay(0), [2, 9, 1]),
    (fit_model(), [4]),
    (estimate(0, 0, 1), [0, 35, 4]),
    (estimate(0, 3, 1), [0, 35, 4]),
    (set_truth(0, 1, [10, 2]), [0]),
    (set_truth(1, 3, [4, 8]), [0]),
    (log_event(0, 0, 1, 5), [-33]),
    (log_event(0, 1, 1, 7), [5]),
    (remove_last(), [4]),
    (add_event(0, 0, 1, 3, 2), [-22]),
    (estimate(3, 1, 100), [-2]),
]


class Examples(unittest.TestCase):
    def test_rows(self):
        self.assertEqual(ask([call for call, answer in ROWS]), [answer for call, answer in ROWS])


if __name__ == "__main__":
    unittest.main()
