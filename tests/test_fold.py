"""The calls fold and project; and the document's requirements 3 and 4."""

import unittest

from asking import (ADD_GENERATOR, CREATE, DEFINING, FOLD, GENERATORS, LARGEST, PROJECT, RESOLUTION, RUN_COUNT, RUNS,
                    SET_BLOCKS, SUMMARY, ask, ask_design, flat, in_order, members, runs_of, some_designs, span)


def folded(words, mask):
    """The generators behind a fold: the shortest words first, none that the ones ahead of it make."""
    taken = []
    for word in in_order([word for word in span(words) if word[0] != 0]):
        if len(members(word[0]) & members(mask)) % 2 == 0 and word not in span(taken):
            taken.append(word)
    return taken


def some_masks(factors):
    return sorted({0, 1, 2 ** factors - 1, 2 ** (factors - 1), 5 % 2 ** factors, 6 % 2 ** factors, 90 % 2 ** factors})


class Fold(unittest.TestCase):

    def test_one_factor(self):
        self.assertEqual(ask([CREATE, 4], [ADD_GENERATOR, 15, 0], [FOLD, 1], [GENERATORS], [RUN_COUNT])[2:],
                         [[0], [0], [16]])
        self.assertEqual(ask([CREATE, 5], [ADD_GENERATOR, 7, 1], [ADD_GENERATOR, 25, 0], [FOLD, 1], [GENERATORS],
                             [DEFINING], [RUN_COUNT])[3:], [[1], [1, 30, 1], [1, 30, 1], [16]])

    def test_mask_that_every_word_has_an_even_number_of(self):
        self.assertEqual(ask([CREATE, 4], [ADD_GENERATOR, 15, 1], [FOLD, 3], [GENERATORS], [RUN_COUNT])[2:],
                         [[1], [1, 15, 1], [8]])

    def test_mask_0_keeps_the_subgroup_but_not_the_generators(self):
        self.assertEqual(ask([CREATE, 5], [ADD_GENERATOR, 30, 1], [ADD_GENERATOR, 7, 1], [FOLD, 0], [GENERATORS],
                             [DEFINING])[3:], [[2], [2, 7, 1, 25, 0], [3, 7, 1, 25, 0, 30, 1]])
        self.assertEqual(ask([CREATE, 3], [ADD_GENERATOR, 7, 1], [ADD_GENERATOR, 6, 0], [ADD_GENERATOR, 4, 1],
                             [FOLD, 0], [GENERATORS])[4:], [[3], [3, 1, 1, 2, 1, 4, 1]])

    def test_products_of_words_taken_before_are_left_out(self):
        # In order: 3, 5, 6, 9, 10, 12, 15, and 6, the product of 3 and 5, stands ahead of 9.
        self.assertEqual(ask([CREATE, 4], [ADD_GENERATOR, 15, 0], [ADD_GENERATOR, 5, 1], [ADD_GENERATOR, 3, 0],
                             [FOLD, 0], [GENERATORS])[4:], [[3], [3, 3, 0, 5, 1, 9, 1]])

    def test_all_factors(self):
        self.assertEqual(ask([CREATE, 5], [ADD_GENERATOR, 7, 0], [ADD_GENERATOR, 25, 1], [FOLD, 31], [GENERATORS],
                             [RESOLUTION], [RUN_COUNT])[3:], [[1], [1, 30, 1], [4], [16]])

    def test_no_generators(self):
        for factors in range(2, 9):
            masks = some_masks(factors)
            with self.subTest(factors=factors):
                told = ask([CREATE, factors], *[[FOLD, mask] for mask in masks], [GENERATORS], [RUN_COUNT])
                self.assertEqual(told[1:], [[0]] * len(masks) + [[0], [2 ** factors]])

    def test_folding_twice(self):
        self.assertEqual(ask([CREATE, 6], [ADD_GENERATOR, 11, 1], [ADD_GENERATOR, 22, 0], [ADD_GENERATOR, 37, 1],
                             [FOLD, 1], [GENERATORS], [FOLD, 2], [GENERATORS], [RUN_COUNT])[4:],
                         [[2], [2, 22, 0, 56, 0], [1], [1, 56, 0], [32]])

    def test_out_of_range(self):
        for mask in (32, 33, 63, 256, LARGEST):
            with self.subTest(mask=mask):
                self.assertEqual(ask([CREATE, 5], [ADD_GENERATOR, 30, 1], [ADD_GENERATOR, 7, 1], [SET_BLOCKS, 1, 1],
                                     [FOLD, mask], [GENERATORS], [SUMMARY])[4:],
                                 [[-22], [2, 30, 1, 7, 1], [5, 2, 1, 8]])

    def test_many_designs(self):
        for factors, words in some_designs():
            for mask in some_masks(factors):
                with self.subTest(factors=factors, words=words, mask=mask):
                    expected = folded(words, mask)
                    told = ask_design(factors, words, [[FOLD, mask], [GENERATORS]])
                    self.assertEqual(told, [[len(expected)], flat(expected)])

    def test_the_runs_and_those_with_the_mask_reversed(self):
        for factors, words in some_designs():
            if factors > 5:
                continue
            for mask in range(2 ** factors):
                with self.subTest(factors=factors, words=words, mask=mask):
                    before = runs_of(factors, words)
                    expected = sorted(set(before) | {run ^ mask for run in before})
                    told = ask_design(factors, words, [[FOLD, mask], [RUNS, 0]])
                    self.assertEqual(told[1], [len(expected)] + expected)

    def test_requirement_3_no_word_of_odd_length(self):
        for factors, words in some_designs():
            with self.subTest(factors=factors, words=words):
                told = ask_design(factors, words, [[FOLD, 2 ** factors - 1], [DEFINING]])[1]
                self.assertEqual([mask for mask in told[1::2] if len(members(mask)) % 2 == 1], [])
                evens = [mask for mask, sign in span(words) if mask != 0 and len(members(mask)) % 2 == 0]
                self.assertEqual(told[0], len(evens))


class Project(unittest.TestCase):

    def test_mask_0(self):
        self.assertEqual(ask([CREATE, 4], [PROJECT, 0], [ADD_GENERATOR, 15, 0], [PROJECT, 0])[1:],
                         [[1, 16, 1], [1], [1, 8, 1]])

    def test_all_factors(self):
        self.assertEqual(ask([CREATE, 4], [PROJECT, 15], [ADD_GENERATOR, 15, 0], [PROJECT, 15])[1:],
                         [[16, 1, 1], [1], [8, 1, 0]])
        self.assertEqual(ask([CREATE, 8], [PROJECT, 255])[1:], [[256, 1, 1]])

    def test_on_a_word(self):
        self.assertEqual(ask([CREATE, 5], [ADD_GENERATOR, 7, 1], [PROJECT, 7], [PROJECT, 3], [PROJECT, 15],
                             [PROJECT, 24])[2:], [[4, 4, 0], [4, 4, 1], [8, 2, 0], [4, 4, 1]])

    def test_as_many_generators_as_factors(self):
        setting = [[CREATE, 3], [ADD_GENERATOR, 7, 1], [ADD_GENERATOR, 2, 0], [ADD_GENERATOR, 1, 1]]
        self.assertEqual(ask(*setting, [PROJECT, 0], [PROJECT, 1], [PROJECT, 6], [PROJECT, 7])[4:],
                         [[1, 1, 1], [1, 1, 0], [1, 1, 0], [1, 1, 0]])

    def test_out_of_range(self):
        for mask in (16, 17, 31, 256, LARGEST):
            with self.subTest(mask=mask):
                self.assertEqual(ask([CREATE, 4], [ADD_GENERATOR, 15, 0], [PROJECT, mask], [PROJECT, 7])[2:],
                                 [[-22], [8, 1, 1]])

    def test_many_designs(self):
        for factors, words in some_designs():
            with self.subTest(factors=factors, words=words):
                masks = range(0, 2 ** factors, 1 if factors < 6 else 5)
                told = ask_design(factors, words, [[PROJECT, mask] for mask in masks])
                found = runs_of(factors, words)
                for mask, answer in zip(masks, told):
                    kept = {frozenset(members(run) & members(mask)) for run in found}
                    full = 1 if len(kept) == 2 ** len(members(mask)) else 0
                    self.assertEqual(answer, [len(kept), len(found) // len(kept), full])

    def test_requirement_4_fewer_factors_than_the_resolution(self):
        asked = 0
        for factors, words in some_designs():
            masks = range(2 ** factors)
            told = ask_design(factors, words, [[RESOLUTION], [RUN_COUNT]])
            small = [mask for mask in masks if len(members(mask)) < told[0][0]]
            if small:
                asked += 1
                with self.subTest(factors=factors, words=words):
                    answers = ask_design(factors, words, [[PROJECT, mask] for mask in small])
                    for mask, answer in zip(small, answers):
                        size = 2 ** len(members(mask))
                        self.assertEqual(answer, [size, told[1][0] // size, 1])
                        counts = {}
                        for run in runs_of(factors, words):
                            counts[run & mask] = counts.get(run & mask, 0) + 1
                        self.assertEqual(set(counts.values()), {told[1][0] // size})
        self.assertGreater(asked, 100)


if __name__ == "__main__":
    unittest.main()
