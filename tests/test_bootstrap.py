"""bootstrap: resampling from a seed."""

import random
import unittest
from fractions import Fraction

from sample_logs import LOG, MODELLED, NEVER, PRIME_LOG, PRIMES
from study_calls import (
    LARGEST, MISSING, NOT_ENOUGH, OUT_OF_LIMITS, add_event, ask, bootstrap, create, estimate, fit_model, last,
    remove_last, set_model, set_policy,
)

# With 4 events these seeds take the events at the following places, round by round; the terms of policy 0 in LOG
# are 20, 0, 6 and 8.
#          0: 0 0 0 1, 2 3 1 1, 2 2 1 0, 3 2 3 3, 0 1 0 1: the estimates 15, 7/2, 8, 15/2 and 10
#          1: 2 2 1 3, 3 3 2 3:                            the estimates 5 and 15/2
# 2147483647: 1 1 2 2, 1 2 0 3, 0 2 1 1:                   the estimates 3, 17/2 and 13/2


def drawn_places(seed, count, rounds):
    """The places of the events that each round takes."""
    result = []
    for turn in range(rounds):
        places = []
        for draw in range(count):
            seed = (1103515245 * seed + 12345) % 2 ** 31
            places.append(seed // 65536 % count)
        result.append(places)
    return result


class Rounds(unittest.TestCase):
    ANSWERS = {
        1: [15, 1, 15, 1, 15, 1],
        2: [7, 2, 7, 2, 15, 1],
        3: [7, 2, 8, 1, 15, 1],
        4: [7, 2, 15, 2, 15, 1],
        5: [7, 2, 8, 1, 15, 1],
    }

    def test_few(self):
        for rounds, answer in self.ANSWERS.items():
            with self.subTest(rounds=rounds):
                self.assertEqual(last(LOG + [bootstrap(0, 1, 100, rounds, 0)]), [0] + answer)

    def test_fifty(self):
        terms = [20, 0, 6, 8]
        sums = sorted(sum(terms[place] for place in places) for places in drawn_places(5, 4, 50))
        answer = last(LOG + [bootstrap(0, 1, 100, 50, 5)])
        self.assertEqual([Fraction(answer[place], answer[place + 1]) for place in (1, 3, 5)],
                         [Fraction(sums[place], 4) for place in (0, 24, 49)])

    def test_outside(self):
        for rounds in (0, 51, LARGEST):
            with self.subTest(rounds=rounds):
                self.assertEqual(last(LOG + [bootstrap(0, 1, 100, rounds, 0)]), OUT_OF_LIMITS)


class Seeds(unittest.TestCase):
    def test_each_edge(self):
        self.assertEqual(last(LOG + [bootstrap(0, 1, 100, 2, 1)]), [0, 5, 1, 5, 1, 15, 2])
        self.assertEqual(last(LOG + [bootstrap(0, 1, 100, 3, 2147483647)]), [0, 3, 1, 13, 2, 17, 2])

    def test_only_31_digits_of_a_seed_matter(self):
        for seed, same in ((2147483648, 0), (2147483649, 1), (LARGEST, 2147483647)):
            for rounds in (1, 3, 50):
                asked = [bootstrap(0, 1, 100, rounds, seed), bootstrap(0, 1, 100, rounds, same)]
                self.assertEqual(*ask(LOG + asked)[len(LOG):])

    def test_no_seed_is_kept_from_one_call_to_the_next(self):
        answered = ask(LOG + [bootstrap(0, 1, 100, 3, 0), bootstrap(0, 1, 100, 2, 9), bootstrap(0, 1, 100, 3, 0)])
        self.assertEqual(answered[-1], answered[-3])


class Kinds(unittest.TestCase):
    def test_each_kind(self):
        answers = {
            (0, 1): [20, 1, 20, 1, 95, 2],
            (1, 1): [7, 2, 7, 2, 15, 1],
            (2, 100): [7, 2, 7, 2, 15, 2],
            (2, 1): [7, 200, 7, 200, 3, 40],
            (2, 100000): [7, 2, 7, 2, 15, 1],
            (3, 1): [5, 1, 5, 1, 26, 1],
        }
        for (kind, limit), answer in answers.items():
            with self.subTest(kind=kind, limit=limit):
                self.assertEqual(last(MODELLED + [bootstrap(0, kind, limit, 2, 0)]), [0] + answer)

    def test_negative(self):
        calls = [create(1, 1), set_model(0, [50]), add_event(0, 0, 0, 3, 4), add_event(0, 0, 50, 3, 4)]
        # The terms are -50/3 and 50; seed 0 takes the places 0 0, 0 1, 0 1, 1 1, 0 0.
        self.assertEqual(last(calls + [bootstrap(0, 3, 1, 1, 0)]), [0] + [-50, 3] * 3)
        self.assertEqual(last(calls + [bootstrap(0, 3, 1, 5, 0)]), [0, -50, 3, 50, 3, 50, 1])

    def test_zero(self):
        self.assertEqual(last(NEVER + [bootstrap(0, 1, 1, 50, 7)]), [0] + [0, 1] * 3)


class Events(unittest.TestCase):
    def test_one_event(self):
        self.assertEqual(last([create(1, 2), add_event(0, 1, 7, 3, 4), bootstrap(0, 1, 1, 50, 3)]), [0] + [14, 3] * 3)

    def test_no_events(self):
        for kind in range(4):
            self.assertEqual(last([create(1, 1), bootstrap(0, kind, 1, 1, 0)]), NOT_ENOUGH)
        self.assertEqual(last(NEVER + [remove_last(), remove_last(), bootstrap(0, 1, 1, 1, 0)]), NOT_ENOUGH)

    def test_the_estimates_are_those_of_logs_of_the_taken_events(self):
        draw = random.Random(23)
        for count in (2, 3, 7, 40):
            events = [add_event(draw.randrange(2), draw.randrange(3), draw.randint(0, 100), draw.randint(1, 9), 9)
                      for place in range(count)]
            policies = [set_policy(0, 0, [1, 2, 4]), set_policy(0, 1, [0, 3, 1])]
            model = [set_model(0, [40, 7, 90]), set_model(1, [10, 80, 5])]
            for kind, seed in ((0, LARGEST), (1, 2147483648), (2, 77), (3, 0)):
                values = []
                for places in drawn_places(seed, count, 9):
                    taken = [events[place] for place in places]
                    answer = last([create(2, 3)] + policies + model + taken + [estimate(0, kind, 150)])
                    values.append((Fraction(answer[1], answer[2]), answer[1:]))
                values.sort()
                answer = last([create(2, 3)] + policies + model + events + [bootstrap(0, kind, 150, 9, seed)])
                with self.subTest(count=count, kind=kind):
                    self.assertEqual(answer, [0] + values[0][1] + values[4][1] + values[8][1])

    def test_the_model_is_not_fitted_anew(self):
        calls = [create(1, 1), add_event(0, 0, 10, 1, 1), add_event(0, 0, 20, 1, 1), fit_model()]
        self.assertEqual(last(calls + [bootstrap(0, 0, 1, 50, 4)]), [0] + [15, 1] * 3)

    def test_numbers_beyond_64_bits(self):
        terms = [Fraction(100 * 1000, prime) for prime in PRIMES]
        means = sorted(sum(terms[place] for place in places) / len(terms)
                       for places in drawn_places(8, len(terms), 50))
        chosen = [means[0], means[24], means[49]]
        self.assertGreater(min(value.denominator for value in chosen), 2 ** 64)
        self.assertEqual(last(PRIME_LOG + [bootstrap(0, 1, 1, 50, 8)]),
                         [0] + [number for value in chosen for number in (value.numerator, value.denominator)])


class Errors(unittest.TestCase):
    def test_policy_kind_and_limit(self):
        for policy in (3, LARGEST):
            self.assertEqual(last(LOG + [bootstrap(policy, 1, 100, 1, 0)]), MISSING)
        for kind, limit in ((4, 1), (LARGEST, 1), (2, 0), (2, 100001), (0, 0), (3, LARGEST)):
            self.assertEqual(last(LOG + [bootstrap(0, kind, limit, 1, 0)]), OUT_OF_LIMITS)

    def test_rounds_come_first(self):
        for rounds in (0, 51):
            self.assertEqual(last(LOG + [bootstrap(3, 1, 100, rounds, 0)]), OUT_OF_LIMITS)
            self.assertEqual(last([create(1, 1), bootstrap(0, 1, 100, rounds, 0)]), OUT_OF_LIMITS)

    def test_then_the_order_of_estimate(self):
        self.assertEqual(last([create(1, 1), bootstrap(3, 4, 0, 1, 0)]), MISSING)
        self.assertEqual(last([create(1, 1), bootstrap(3, 1, 1, 1, 0)]), MISSING)
        self.assertEqual(last([create(1, 1), bootstrap(0, 4, 1, 1, 0)]), OUT_OF_LIMITS)
        self.assertEqual(last([create(1, 1), bootstrap(0, 1, 0, 1, 0)]), OUT_OF_LIMITS)


if __name__ == "__main__":
    unittest.main()
