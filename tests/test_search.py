"""The calls best, take_best and is_equivalent; and the document's requirement 7."""

import itertools
import unittest

from asking import (ADD_GENERATOR, BEST, CREATE, DEFINING, GENERATORS, IS_EQUIVALENT, LARGEST, PATTERN, RESOLUTION,
                    RUNS, SET_BLOCKS, SUMMARY, TAKE_BEST, ask, ask_design, draws, flat, independent_masks, members, row,
                    span_of_masks)

BESTS = {(2, 1): [3], (3, 1): [7], (4, 1): [15], (5, 1): [31], (6, 1): [63], (3, 2): [3, 5], (4, 2): [3, 13],
         (5, 2): [7, 25], (6, 2): [15, 51]}


def pattern_of(factors, masks):
    lengths = [len(members(mask)) for mask in span_of_masks(masks)]
    return [lengths.count(length) for length in range(1, factors + 1)]


class Best(unittest.TestCase):

    def test_each(self):
        for (factors, count), masks in BESTS.items():
            with self.subTest(factors=factors, count=count):
                self.assertEqual(ask([CREATE, 2], [BEST, factors, count])[1], row(masks))

    def test_out_of_range(self):
        wrong = [(0, 1), (1, 1), (7, 1), (8, 2), (LARGEST, 1), (4, 0), (4, 3), (6, 5), (6, LARGEST), (2, 2), (2, 0),
                 (1, 0), (0, 0), (2, 3), (3, 3), (LARGEST, LARGEST), (7, 0), (1, 2)]
        told = ask([CREATE, 8], *[[BEST, factors, count] for factors, count in wrong])[1:]
        self.assertEqual(told, [[-22]] * len(wrong))

    def test_the_design_does_not_matter(self):
        for factors in (2, 3, 8):
            with self.subTest(factors=factors):
                self.assertEqual(ask([CREATE, factors], [ADD_GENERATOR, 3, 1], [SET_BLOCKS, 1, 1], [BEST, 6, 2],
                                     [BEST, 2, 1], [GENERATORS], [SUMMARY])[3:],
                                 [[2, 15, 51], [1, 3], [1, 3, 1], [factors, 1, 1, 2 ** (factors - 1)]])

    def test_requirement_7_no_pattern_is_less(self):
        for (factors, count), masks in BESTS.items():
            with self.subTest(factors=factors, count=count):
                answer = ask([CREATE, 2], [BEST, factors, count])[1]
                least = pattern_of(factors, answer[1:])
                for others in itertools.combinations(range(1, 2 ** factors), count):
                    pattern = pattern_of(factors, others)
                    self.assertGreaterEqual(pattern, least)
                    # Of several with the least pattern it's the first one.
                    if list(others) < answer[1:]:
                        self.assertGreater(pattern, least)

    def test_requirement_7_by_the_pattern_that_is_told(self):
        for factors in range(3, 7):
            least = ask([CREATE, factors], [TAKE_BEST, 2], [PATTERN])[2]
            limit = 2 ** factors
            pairs = [(first, second) for first in range(1, limit) for second in range(first + 1, limit)]
            for words in pairs if factors < 5 else pairs[::17]:
                with self.subTest(factors=factors, words=words):
                    told = ask_design(factors, [(mask, 1) for mask in words], [[PATTERN]])[0]
                    self.assertGreaterEqual(told, least)


class TakeBest(unittest.TestCase):

    def test_each_with_the_signs_0(self):
        for (factors, count), masks in BESTS.items():
            with self.subTest(factors=factors, count=count):
                told = ask([CREATE, factors], [ADD_GENERATOR, 1, 1], [TAKE_BEST, count], [GENERATORS], [SUMMARY])
                self.assertEqual(told[2:], [[count], flat([(mask, 0) for mask in masks]),
                                            [factors, count, 0, 2 ** (factors - count)]])

    def test_signs_1_are_gone(self):
        self.assertEqual(ask([CREATE, 3], [ADD_GENERATOR, 7, 1], [TAKE_BEST, 1], [GENERATORS], [RUNS, 0])[2:],
                         [[1], [1, 7, 0], [4, 1, 2, 4, 7]])

    def test_words_of_the_best(self):
        self.assertEqual(ask([CREATE, 5], [TAKE_BEST, 2], [DEFINING], [RESOLUTION], [PATTERN])[1:],
                         [[2], [3, 7, 0, 25, 0, 30, 0], [3], [5, 0, 0, 2, 1, 0]])

    def test_more_words_can_be_added(self):
        self.assertEqual(ask([CREATE, 5], [TAKE_BEST, 2], [ADD_GENERATOR, 30, 0], [ADD_GENERATOR, 1, 1],
                             [TAKE_BEST, 1], [ADD_GENERATOR, 7, 1])[1:], [[2], [-17], [3], [1], [2]])

    def test_out_of_range(self):
        for factors, count in ((4, 0), (4, 3), (4, LARGEST), (2, 2), (2, 0), (2, 3), (3, 3), (6, 3), (7, 1), (7, 2),
                               (8, 1), (8, 2), (8, 0), (7, LARGEST)):
            with self.subTest(factors=factors, count=count):
                self.assertEqual(ask([CREATE, factors], [ADD_GENERATOR, 3, 1], [SET_BLOCKS, 1, 2], [TAKE_BEST, count],
                                     [GENERATORS], [SUMMARY])[3:],
                                 [[-22], [1, 3, 1], [factors, 1, 1, 2 ** (factors - 1)]])


def equivalent_reckoned(factors, first, second):
    wanted = {frozenset(members(mask)) for mask in span_of_masks(second)}
    for order in itertools.permutations(range(factors)):
        if {frozenset(order[factor] for factor in members(mask)) for mask in span_of_masks(first)} == wanted:
            return 1
    return 0


def rename(mask, order):
    return sum(2 ** order[factor] for factor in members(mask))


class IsEquivalent(unittest.TestCase):

    def asked(self, factors, words, *lists):
        return [answer[0] for answer in ask_design(factors, words, [[IS_EQUIVALENT, *row(masks)] for masks in lists])]

    def test_other_names(self):
        self.assertEqual(self.asked(4, [(7, 0)], [7], [11], [13], [14], [15], [3], [1]), [1, 1, 1, 1, 0, 0, 0])
        self.assertEqual(self.asked(5, [(7, 0), (25, 0)], [7, 28], [11, 21], [19, 14], [7, 24], [15, 19]),
                         [1, 1, 1, 0, 1])

    def test_other_generators_of_the_same_words(self):
        self.assertEqual(self.asked(5, [(7, 0), (25, 0)], [7, 25], [25, 7], [7, 30], [30, 25]), [1, 1, 1, 1])

    def test_signs_do_not_matter(self):
        for signs in itertools.product((0, 1), repeat=2):
            self.assertEqual(self.asked(5, [(7, signs[0]), (25, signs[1])], [7, 25], [11, 28], [15, 19], [15, 3]),
                             [1, 1, 1, 0])

    def test_lists_of_different_lengths(self):
        self.assertEqual(self.asked(5, [(7, 0), (25, 0)], [7], [7, 25, 1], [25], [30]), [0, 0, 0, 0])
        self.assertEqual(self.asked(5, [(7, 0)], [7, 25], [25, 7], [28]), [0, 0, 1])
        self.assertEqual(self.asked(3, [(1, 0), (2, 0), (4, 0)], [1, 2], [1, 2, 4], [7, 6, 4]), [0, 1, 1])

    def test_empty_list(self):
        self.assertEqual(self.asked(4, [], [], [1], [15], [1, 2, 4, 8]), [1, 0, 0, 0])
        self.assertEqual(self.asked(4, [(15, 1)], [], [15]), [0, 1])

    def test_same_pattern_but_not_equivalent(self):
        # Both have three words of length 2, three of length 4 and one of length 6; the three short ones are 3, 12 and
        # 48 in the first list, but 3, 5 and their product 6 in the second one.
        self.assertEqual(pattern_of(6, [3, 12, 48]), pattern_of(6, [3, 5, 57]))
        self.assertEqual(self.asked(6, [(3, 0), (12, 0), (48, 0)], [3, 5, 57], [9, 18, 36]), [0, 1])
        self.assertEqual(self.asked(6, [(3, 0), (5, 0), (57, 0)], [3, 12, 48], [48, 40, 15]), [0, 1])

    def test_out_of_range(self):
        for masks in ([0], [16], [LARGEST], [7, 0], [0, 7], [1, 16], [16, 1], [2 ** 31, 1]):
            with self.subTest(masks=masks):
                self.assertEqual(ask([CREATE, 4], [ADD_GENERATOR, 7, 0], [IS_EQUIVALENT, *row(masks)], [SUMMARY])[2:],
                                 [[-22], [4, 1, 0, 8]])

    def test_not_independent(self):
        for masks in ([7, 7], [1, 2, 3], [3, 5, 6], [1, 2, 4, 8, 15], [1] * 256, list(range(1, 16)),
                      list(range(16)) * 16, [1, 2, 4, 8] + [9] * 252):
            with self.subTest(masks=masks):
                self.assertEqual(ask([CREATE, 4], [ADD_GENERATOR, 7, 0], [IS_EQUIVALENT, *row(masks)], [SUMMARY])[2:],
                                 [[-22], [4, 1, 0, 8]])

    def test_a_mask_of_the_design_itself_is_independent(self):
        self.assertEqual(self.asked(4, [(7, 0), (12, 0)], [7, 12], [7, 11], [11, 12]), [1, 1, 1])

    def test_more_than_6_factors(self):
        for factors in (7, 8):
            self.assertEqual(self.asked(factors, [(7, 0)], [7], [], [11], [0]), [-22, -22, -22, -22])
        self.assertEqual(self.asked(6, [(7, 0)], [7], [], [56], [0]), [1, 0, 1, -22])

    def test_all_pairs_of_small_designs(self):
        for factors in (2, 3):
            lists = [list(masks) for count in range(factors + 1)
                     for masks in itertools.permutations(range(1, 2 ** factors), count)
                     if len(span_of_masks(masks)) == 2 ** count]
            for words in lists[::1 if factors == 2 else 5]:
                with self.subTest(factors=factors, words=words):
                    self.assertEqual(self.asked(factors, [(mask, mask % 2) for mask in words], *lists),
                                     [equivalent_reckoned(factors, words, masks) for masks in lists])

    def test_many_designs(self):
        counts = [0, 0]
        for seed in range(60):
            factors = 3 + seed % 4
            count = seed % factors
            words = independent_masks(factors, [], count, seed)
            drawn = draws(seed, 1000)
            order = sorted(range(factors), key=lambda factor: next(drawn))
            renamed = [rename(mask, order) for mask in words]
            mixed = [mask ^ renamed[0] if at else mask for at, mask in enumerate(renamed)]
            lists = [renamed, mixed[::-1], independent_masks(factors, [], count, seed + 1000)]
            with self.subTest(factors=factors, words=words, lists=lists):
                told = self.asked(factors, [(mask, seed % 2) for mask in words], *lists)
                self.assertEqual(told, [1, 1, equivalent_reckoned(factors, words, lists[2])])
                counts[told[2]] += 1
        self.assertGreater(min(counts), 10)


if __name__ == "__main__":
    unittest.main()
