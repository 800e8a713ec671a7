"""The calls estimate, estimates and are_estimable; and the document's requirement 6."""

import fractions
import itertools
import unittest

from asking import (ADD_GENERATOR, ALIASES, ARE_ESTIMABLE, CREATE, ESTIMATE, ESTIMATES, LARGEST, REPRESENTATIVE,
                    SUMMARY, aliases_of, ask, ask_design, draws, estimate_of, masks_in_order, row, runs_of, sign_of,
                    some_designs)

EIGHT_RUNS = [[CREATE, 4], [ADD_GENERATOR, 15, 0]]


def some_responses(count, seed):
    """Responses of both signs, now small, now up to the ends of their range."""
    limit = (3, 21, 2001, 2000001)[seed % 4]
    return [number - limit // 2 for number in itertools.islice(draws(seed, limit), count)]


def wrong_responses(count):
    fitting = list(range(1, count + 1))
    yield from ([], fitting[1:], fitting + [0], [0] * 256)
    for wrong in (1000001, -1000001, 2 ** 31 - 1, -2 ** 31):
        for place in (0, count // 2, count - 1):
            yield fitting[:place] + [wrong] + fitting[place + 1:]


def told(fraction):
    return [fraction.numerator, fraction.denominator]


class Estimate(unittest.TestCase):

    def estimate(self, mask, responses):
        return ask(*EIGHT_RUNS, [ESTIMATE, mask, *row(responses)])[2]

    def test_intercept_is_the_mean(self):
        self.assertEqual(self.estimate(0, [1, 2, 3, 4, 5, 6, 7, 8]), [0, 9, 2])
        self.assertEqual(self.estimate(0, [-4] * 8), [0, -4, 1])
        self.assertEqual(ask([CREATE, 2], [ESTIMATE, 0, 4, 1, 0, 0, 0])[1], [0, 1, 4])

    def test_others_are_doubled(self):
        self.assertEqual(ask([CREATE, 2], [ESTIMATE, 1, 4, 1, 2, 4, 8], [ESTIMATE, 2, 4, 1, 2, 4, 8],
                             [ESTIMATE, 3, 4, 1, 2, 4, 8])[1:], [[0, 5, 2], [0, 9, 2], [0, 3, 2]])

    def test_an_alias_of_the_intercept_is_doubled_too(self):
        self.assertEqual(self.estimate(15, [1, 2, 3, 4, 5, 6, 7, 8]), [0, 9, 1])
        self.assertEqual(ask([CREATE, 4], [ADD_GENERATOR, 15, 1], [ESTIMATE, 15, *row([1, 2, 3, 4, 5, 6, 7, 8])])[2],
                         [0, -9, 1])

    def test_lowest_terms(self):
        self.assertEqual(self.estimate(2, [6, 0, 0, 0, 0, 0, 0, 0]), [0, -3, 2])
        self.assertEqual(self.estimate(3, [6, 0, 0, 0, 0, 0, 0, 0]), [0, 3, 2])
        self.assertEqual(self.estimate(3, [1, 0, 0, 0, 0, 0, 0, 0]), [0, 1, 4])
        self.assertEqual(self.estimate(3, [4, 0, 0, 0, 0, 0, 0, 0]), [0, 1, 1])
        self.assertEqual(self.estimate(0, [1, 0, 0, 0, 0, 0, 0, 0]), [0, 1, 8])
        self.assertEqual(self.estimate(0, [12, 0, 0, 0, 0, 0, 0, 0]), [0, 3, 2])

    def test_below_0(self):
        self.assertEqual(self.estimate(1, [5, 0, 0, 0, 0, 0, 0, 0]), [0, -5, 4])
        self.assertEqual(self.estimate(0, [-1, 0, 0, 0, 0, 0, 0, -2]), [0, -3, 8])

    def test_0_is_0_and_1(self):
        for mask in range(16):
            self.assertEqual(self.estimate(mask, [0] * 8), [0, 0, 1])
        self.assertEqual(self.estimate(1, [7] * 8), [0, 0, 1])
        self.assertEqual(self.estimate(0, [1, -1, 2, -2, 3, -3, 4, -4]), [0, 0, 1])

    def test_one_run(self):
        setting = [[CREATE, 2], [ADD_GENERATOR, 1, 1], [ADD_GENERATOR, 2, 0]]
        self.assertEqual(ask(*setting, *[[ESTIMATE, mask, 1, -7] for mask in range(4)])[3:],
                         [[0, -7, 1], [0, 14, 1], [0, -14, 1], [0, 14, 1]])

    def test_ends_of_the_range(self):
        self.assertEqual(self.estimate(0, [1000000] * 8), [0, 1000000, 1])
        self.assertEqual(self.estimate(0, [-1000000] * 8), [0, -1000000, 1])
        signs = [-1, 1, 1, -1, 1, -1, -1, 1]
        self.assertEqual(self.estimate(1, [sign * 1000000 for sign in signs]), [0, 2000000, 1])
        self.assertEqual(self.estimate(1, [sign * -1000000 for sign in signs]), [0, -2000000, 1])

    def test_mask_out_of_range(self):
        for mask in (16, 17, 31, 256, LARGEST):
            with self.subTest(mask=mask):
                self.assertEqual(self.estimate(mask, [1, 2, 3, 4, 5, 6, 7, 8]), [-22])

    def test_responses_out_of_range(self):
        for responses in wrong_responses(8):
            with self.subTest(responses=responses):
                self.assertEqual(ask(*EIGHT_RUNS, [ESTIMATE, 1, *row(responses)], [SUMMARY])[2:], [[-22], [4, 1, 0, 8]])

    def test_mask_and_responses_out_of_range(self):
        self.assertEqual(self.estimate(16, [1]), [-22])

    def test_many_designs(self):
        for seed, (factors, words) in enumerate(some_designs()):
            with self.subTest(factors=factors, words=words):
                responses = some_responses(2 ** (factors - len(words)), seed)
                effects = range(0, 2 ** factors, 1 if factors < 6 else 11)
                answers = ask_design(factors, words, [[ESTIMATE, effect, *row(responses)] for effect in effects])
                for effect, answer in zip(effects, answers):
                    self.assertEqual(answer, [0] + told(estimate_of(factors, words, effect, responses)))


class Estimates(unittest.TestCase):

    def test_one_of_each_aliases(self):
        self.assertEqual(ask(*EIGHT_RUNS, [ESTIMATES, *row([1, 2, 3, 4, 5, 6, 7, 8])])[2],
                         [8, 0, 9, 2, 1, 0, 1, 2, 1, 1, 4, 2, 1, 8, 4, 1, 3, 0, 1, 5, 0, 1, 6, 0, 1])

    def test_no_generators(self):
        self.assertEqual(ask([CREATE, 2], [ESTIMATES, *row([1, 2, 4, 9])])[1],
                         [4, 0, 4, 1, 1, 3, 1, 2, 5, 1, 3, 2, 1])

    def test_below_0_and_0(self):
        self.assertEqual(ask([CREATE, 2], [ADD_GENERATOR, 3, 1], [ESTIMATES, 2, 4, -5], [ESTIMATES, 2, 0, 0],
                             [ESTIMATES, 2, -5, 4])[2:],
                         [[2, 0, -1, 2, 1, 9, 1], [2, 0, 0, 1, 1, 0, 1], [2, 0, -1, 2, 1, -9, 1]])

    def test_one_run(self):
        self.assertEqual(ask([CREATE, 2], [ADD_GENERATOR, 1, 1], [ADD_GENERATOR, 2, 0], [ESTIMATES, 1, -7])[3],
                         [1, 0, -7, 1])

    def test_as_many_runs_as_there_can_be(self):
        responses = some_responses(256, 3)
        answer = ask([CREATE, 8], [ESTIMATES, *row(responses)])[1]
        self.assertEqual(answer[0], 256)
        self.assertEqual(answer[1::3], masks_in_order(range(256)))
        for mask, numerator, denominator in zip(answer[1::3], answer[2::3], answer[3::3]):
            self.assertEqual([numerator, denominator], told(estimate_of(8, [], mask, responses)))

    def test_responses_out_of_range(self):
        for responses in wrong_responses(8):
            with self.subTest(responses=responses):
                self.assertEqual(ask(*EIGHT_RUNS, [ESTIMATES, *row(responses)], [SUMMARY])[2:], [[-22], [4, 1, 0, 8]])

    def test_many_designs(self):
        for seed, (factors, words) in enumerate(some_designs()):
            with self.subTest(factors=factors, words=words):
                responses = some_responses(2 ** (factors - len(words)), seed)
                own = [mask for mask in masks_in_order(range(2 ** factors)) if aliases_of(words, mask)[0][0] == mask]
                expected = [len(own)]
                for mask in own:
                    expected += [mask] + told(estimate_of(factors, words, mask, responses))
                self.assertEqual(ask_design(factors, words, [[ESTIMATES, *row(responses)]]), [expected])


class Requirement6(unittest.TestCase):

    def test_responses_made_of_coefficients(self):
        for seed, (factors, words) in enumerate(some_designs()):
            if factors > 6:
                continue
            with self.subTest(factors=factors, words=words):
                coefficients = [number - 500 for number in itertools.islice(draws(seed, 1001), 2 ** factors)]
                responses = [sum(-value if sign_of(mask, run) else value for mask, value in enumerate(coefficients))
                             for run in runs_of(factors, words)]
                effects = range(1, 2 ** factors, 1 if factors < 5 else 5)
                aliases = ask_design(factors, words, [[ALIASES, effect] for effect in effects])
                answers = ask_design(factors, words, [[ESTIMATE, effect, *row(responses)] for effect in effects])
                for alias, answer in zip(aliases, answers):
                    total = sum(-coefficients[mask] if sign else coefficients[mask]
                                for mask, sign in zip(alias[1::2], alias[2::2]))
                    self.assertEqual(answer, [0, 2 * total, 1])

    def test_estimates_belong_to_representatives(self):
        for factors, words in some_designs():
            with self.subTest(factors=factors, words=words):
                answer = ask_design(factors, words, [[ESTIMATES, *row([1] * 2 ** (factors - len(words)))]])[0]
                effects = answer[1::3]
                self.assertEqual(ask_design(factors, words, [[REPRESENTATIVE, effect] for effect in effects]),
                                 [[effect, 0] for effect in effects])
                self.assertEqual(len(effects), 2 ** (factors - len(words)))


def estimable_reckoned(factors, words, lost, effects):
    """By the determinant of the products of all columns with each other, which is 0 just if the columns' rank is less
    than their number."""
    kept = [run for run in runs_of(factors, words) if run not in lost]
    columns = [[-1 if sign_of(effect, run) else 1 for run in kept] for effect in [0] + effects]
    square = [[fractions.Fraction(sum(a * b for a, b in zip(first, second))) for second in columns]
              for first in columns]
    while square:
        pivot = next((line for line in square if line[0] != 0), None)
        if pivot is None:
            return 0
        square.remove(pivot)
        square = [[here - there * line[0] / pivot[0] for here, there in zip(line[1:], pivot[1:])] for line in square]
    return 1


class AreEstimable(unittest.TestCase):

    def asked(self, lost, effects):
        return ask(*EIGHT_RUNS, [ARE_ESTIMABLE, *row(lost), *row(effects)])[2]

    def test_empty_lists(self):
        self.assertEqual(self.asked([], []), [1])
        self.assertEqual(self.asked([], [1]), [1])
        self.assertEqual(self.asked([3], []), [1])

    def test_all_runs_lost(self):
        self.assertEqual(self.asked([0, 3, 5, 6, 9, 10, 12, 15], []), [0])
        self.assertEqual(self.asked([0, 3, 5, 6, 9, 10, 12, 15], [1]), [0])
        self.assertEqual(self.asked(list(range(16)), []), [0])
        self.assertEqual(ask([CREATE, 8], [ARE_ESTIMABLE, *row(list(range(256))), 0],
                             [ARE_ESTIMABLE, *row(list(range(255)) + [0]), 0],
                             [ARE_ESTIMABLE, *row(list(range(255))), 1, 1])[1:], [[0], [1], [0]])

    def test_all_runs_lost_but_one(self):
        self.assertEqual(self.asked([0, 3, 5, 6, 9, 10, 12], []), [1])
        self.assertEqual(self.asked([0, 3, 5, 6, 9, 10, 12], [1]), [0])

    def test_lost_runs_that_are_no_runs_of_the_design(self):
        self.assertEqual(self.asked([1, 2, 4, 7, 8, 11, 13, 14], [1, 2, 4, 8, 3, 5, 6]), [1])
        self.assertEqual(self.asked([1, 2, 4, 7, 8, 11, 13, 14, 0], [1, 2, 4, 8, 3, 5, 6]), [0])

    def test_lost_runs_named_twice(self):
        self.assertEqual(self.asked([3, 3, 3], [1, 2, 4, 8, 3, 5]), [1])
        self.assertEqual(self.asked([3] * 256, [1, 2, 4, 8, 3, 5]), [1])
        self.assertEqual(self.asked([3, 5, 3], [1, 2, 4, 8, 3, 5]), [0])

    def test_an_effect_named_twice_counts_twice(self):
        self.assertEqual(self.asked([], [1, 1]), [0])
        self.assertEqual(self.asked([], [1, 2, 4, 1]), [0])
        self.assertEqual(self.asked([], [1, 2, 4]), [1])

    def test_aliased_effects(self):
        self.assertEqual(self.asked([], [3, 12]), [0])
        self.assertEqual(self.asked([], [3, 5, 6]), [1])
        self.assertEqual(self.asked([], [1, 14]), [0])
        self.assertEqual(self.asked([], [15]), [0])

    def test_as_many_effects_as_runs_allow(self):
        self.assertEqual(self.asked([], [1, 2, 4, 8, 3, 5, 6]), [1])
        self.assertEqual(self.asked([], [1, 2, 4, 8, 3, 5, 6, 9]), [0])

    def test_which_runs_are_lost_matters(self):
        self.assertEqual(self.asked([3, 5, 6, 9], [1, 2, 4, 8]), [0])
        self.assertEqual(self.asked([0, 3, 5], [1, 2, 4, 8]), [1])
        # The runs 0, 3, 12 and 15 have the factors 0 and 1 at the same level.
        self.assertEqual(self.asked([5, 6, 9, 10], [1, 4]), [1])
        self.assertEqual(self.asked([5, 6, 9, 10], [1, 2]), [0])
        # All that have the factor 0 at one level.
        self.assertEqual(self.asked([0, 6, 10, 12], [1]), [0])
        self.assertEqual(self.asked([0, 6, 10, 12], [2, 4]), [1])

    def test_columns_that_depend_though_no_two_of_them_are_alike(self):
        # The runs left are 0, 1, 2 and 4: the product of any two factors is a sum of the intercept and both.
        lost = [3, 5, 6, 7]
        self.assertEqual(ask([CREATE, 3], [ARE_ESTIMABLE, *row(lost), 3, 1, 2, 4],
                             [ARE_ESTIMABLE, *row(lost), 3, 1, 2, 3], [ARE_ESTIMABLE, *row(lost), 3, 3, 5, 6])[1:],
                         [[1], [0], [1]])

    def test_12_and_13_effects(self):
        effects = [1, 2, 4, 8, 16, 32, 64, 128, 3, 5, 6, 255]
        self.assertEqual(ask([CREATE, 8], [ARE_ESTIMABLE, 0, *row(effects)], [ARE_ESTIMABLE, 0, *row(effects + [7])],
                             [ARE_ESTIMABLE, 0, *row([1] * 12)], [ARE_ESTIMABLE, 0, *row([1] * 13)],
                             [ARE_ESTIMABLE, 0, *row(list(range(1, 256)))], [ARE_ESTIMABLE, 0, *row([1] * 256)])[1:],
                         [[1], [-22], [0], [-22], [-22], [-22]])
        self.assertEqual(self.asked(list(range(16)), list(range(1, 13))), [0])
        self.assertEqual(self.asked([], list(range(1, 14))), [-22])

    def test_out_of_range(self):
        for lost, effects in (([16], []), ([LARGEST], [1]), ([1, 2, 16], [1]), ([0] * 255 + [16], [1]), ([], [0]),
                              ([], [1, 0]), ([], [16]), ([], [1, 2, 16]), ([], [LARGEST]), ([16], [0]),
                              (list(range(16)), [0]), (list(range(16)), [16])):
            with self.subTest(lost=lost, effects=effects):
                self.assertEqual(ask(*EIGHT_RUNS, [ARE_ESTIMABLE, *row(lost), *row(effects)], [SUMMARY])[2:],
                                 [[-22], [4, 1, 0, 8]])

    def test_all_effects_of_a_small_design(self):
        for lost in itertools.chain.from_iterable(itertools.combinations(range(8), size) for size in (0, 2, 3, 4, 5)):
            lists = [list(effects) for size in (1, 2, 3) for effects in itertools.combinations(range(1, 8), size)]
            answers = ask([CREATE, 3], *[[ARE_ESTIMABLE, *row(lost), *row(effects)] for effects in lists])[1:]
            for effects, answer in zip(lists, answers):
                with self.subTest(lost=lost, effects=effects):
                    self.assertEqual(answer, [estimable_reckoned(3, [], lost, effects)])

    def test_many_designs(self):
        counts = [0, 0]
        for seed, (factors, words) in enumerate(some_designs()):
            drawn = draws(seed, 2 ** factors)
            found = runs_of(factors, words)
            for step in range(6):
                # Hardly more runs are kept than there are effects, so that both answers come up often.
                effects = [1 + next(drawn) % (2 ** factors - 1) for turn in range(min(1 + step * 2, factors + 2, 12))]
                keep = len(effects) + 1 + next(drawn) % 4
                lost = sorted(found, key=lambda run: (run * 37 + seed * 5 + step * 11) % 64)[keep:]
                with self.subTest(factors=factors, words=words, lost=lost, effects=effects):
                    answer = ask_design(factors, words, [[ARE_ESTIMABLE, *row(lost), *row(effects)]])[0]
                    self.assertEqual(answer, [estimable_reckoned(factors, words, lost, effects)])
                    counts[answer[0]] += 1
        self.assertGreater(min(counts), 100)


if __name__ == "__main__":
    unittest.main()
