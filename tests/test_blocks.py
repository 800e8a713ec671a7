"""The calls set_blocks, block_of, block_runs and confounded; when blocks are removed; the document's requirement 5."""

import unittest

from asking import (ADD_GENERATOR, BEST, BLOCK_OF, BLOCK_RUNS, CONFOUNDED, CREATE, FOLD, GENERATORS, IS_EQUIVALENT,
                    LARGEST, PROJECT, REMOVE_GENERATOR, SET_BLOCKS, SUMMARY, TAKE_BEST, ask, ask_design,
                    independent_masks, masks_in_order, row, runs_of, sign_of, some_designs, span, span_of_masks)

FIVE = [[CREATE, 5], [ADD_GENERATOR, 21, 1], [ADD_GENERATOR, 11, 0]]
TWO_BLOCK_MASKS = [2, 1, 2]


def blocked_designs():
    """Designs with masks of blocks, of each number that there can be."""
    for seed, (factors, words) in enumerate(some_designs()):
        yield factors, words, independent_masks(factors, words, seed % (factors - len(words) + 1), seed)


def block_reckoned(blocks, run):
    return int("".join(str(sign_of(mask, run)) for mask in blocks) or "0", 2)


class SetBlocks(unittest.TestCase):

    def test_counts(self):
        for count in range(9):
            masks = [2 ** factor for factor in range(count)]
            with self.subTest(count=count):
                self.assertEqual(ask([CREATE, 8], [SET_BLOCKS, *row(masks)], [SUMMARY])[1:],
                                 [[2 ** count], [8, 0, count, 256]])

    def test_empty_list_removes_the_masks(self):
        self.assertEqual(ask(*FIVE, [SET_BLOCKS, 0], [SUMMARY], [SET_BLOCKS, 2, 1, 2], [SUMMARY], [SET_BLOCKS, 0],
                             [SUMMARY], [CONFOUNDED])[3:],
                         [[1], [5, 2, 0, 8], [4], [5, 2, 2, 8], [1], [5, 2, 0, 8], [0]])

    def test_masks_are_replaced(self):
        self.assertEqual(ask([CREATE, 3], [SET_BLOCKS, 2, 1, 2], [SET_BLOCKS, 1, 7], [SUMMARY], [CONFOUNDED],
                             [BLOCK_OF, 7], [BLOCK_OF, 6])[1:],
                         [[4], [2], [3, 0, 1, 8], [1, 7], [0], [1]])

    def test_out_of_range(self):
        for masks in ([32], [LARGEST], [1, 32], [32, 1], [1, 2, LARGEST], [2 ** 31], [1] * 255 + [32]):
            with self.subTest(masks=masks):
                self.assertEqual(ask(*FIVE, [SET_BLOCKS, *row(masks)], [SUMMARY])[3:], [[-22], [5, 2, 0, 8]])

    def test_not_independent(self):
        # 30 is the product of the generators, 28 that of 11 and 21 and 2.
        for masks in ([0], [1, 0], [0, 1], [1, 1], [1, 2, 3], [21], [11], [30], [1, 31], [2, 28], [1, 2, 4, 8],
                      [1] * 256, [0] * 256, list(range(32)) * 8, list(range(1, 32)), [1, 2, 4, 9, 16]):
            with self.subTest(masks=masks):
                self.assertEqual(ask(*FIVE, [SET_BLOCKS, *row(masks)], [SUMMARY])[3:], [[-22], [5, 2, 0, 8]])

    def test_many_masks_without_generators(self):
        for masks in (list(range(1, 257)), list(range(256)), [255] * 256, [1, 2, 4, 8, 16, 32, 64, 128, 255]):
            with self.subTest(masks=masks):
                self.assertEqual(ask([CREATE, 8], [SET_BLOCKS, *row(masks)], [SUMMARY])[1:], [[-22], [8, 0, 0, 256]])

    def test_refused_leaves_the_earlier_masks(self):
        asks = [[SUMMARY], [CONFOUNDED], [BLOCK_RUNS, 0], [BLOCK_RUNS, 1], [BLOCK_RUNS, 2], [BLOCK_RUNS, 3]]
        for masks in ([32], [0], [1, 1], [21], [4, 30], [4, LARGEST], [1, 2, 4, 8]):
            with self.subTest(masks=masks):
                told = ask(*FIVE, [SET_BLOCKS, 2, 1, 2], *asks, [SET_BLOCKS, *row(masks)], *asks)[3:]
                self.assertEqual((told[0], told[7]), ([4], [-22]))
                self.assertEqual(told[1:7], told[8:])

    def test_all_pairs(self):
        for words in ([], [(7, 1)], [(3, 0), (12, 1)]):
            pairs = [(first, second) for first in range(17) for second in range(17)]
            told = ask_design(4, words, [[SET_BLOCKS, 2, first, second] for first, second in pairs])
            for (first, second), answer in zip(pairs, told):
                with self.subTest(words=words, first=first, second=second):
                    size = len(span_of_masks([word[0] for word in words] + [first, second]))
                    fitting = first < 16 and second < 16 and size == 2 ** (len(words) + 2)
                    self.assertEqual(answer, [4] if fitting else [-22])


class BlockOf(unittest.TestCase):

    def test_most_significant_digit_first(self):
        self.assertEqual(ask([CREATE, 3], [SET_BLOCKS, 3, 1, 2, 4], *[[BLOCK_OF, run] for run in range(8)])[2:],
                         [[7], [3], [5], [1], [6], [2], [4], [0]])
        self.assertEqual(ask([CREATE, 3], [SET_BLOCKS, 2, 4, 1], *[[BLOCK_OF, run] for run in range(8)])[2:],
                         [[3], [2], [3], [2], [1], [0], [1], [0]])

    def test_no_masks(self):
        self.assertEqual(ask([CREATE, 2], *[[BLOCK_OF, run] for run in range(5)])[1:], [[0], [0], [0], [0], [-22]])

    def test_not_a_run_of_the_design(self):
        self.assertEqual(ask([CREATE, 3], [ADD_GENERATOR, 7, 0], [SET_BLOCKS, 1, 3],
                             *[[BLOCK_OF, run] for run in range(8)])[3:],
                         [[-22], [1], [1], [-22], [0], [-22], [-22], [0]])

    def test_out_of_range(self):
        for run in (8, 9, 15, 256, LARGEST):
            with self.subTest(run=run):
                self.assertEqual(ask([CREATE, 3], [SET_BLOCKS, 1, 3], [BLOCK_OF, run], [BLOCK_OF, 7])[2:],
                                 [[-22], [0]])

    def test_many_designs(self):
        for factors, words, blocks in blocked_designs():
            with self.subTest(factors=factors, words=words, blocks=blocks):
                found = runs_of(factors, words)
                told = ask_design(factors, words, [[BLOCK_OF, run] for run in range(2 ** factors)], blocks)
                self.assertEqual(told, [[block_reckoned(blocks, run)] if run in found else [-22]
                                        for run in range(2 ** factors)])


class BlockRuns(unittest.TestCase):

    def test_block_0_without_masks(self):
        self.assertEqual(ask([CREATE, 3], [BLOCK_RUNS, 0], [BLOCK_RUNS, 1])[1:],
                         [[8, 0, 1, 2, 3, 4, 5, 6, 7], [-2]])
        self.assertEqual(ask([CREATE, 3], [ADD_GENERATOR, 7, 0], [BLOCK_RUNS, 0])[2:], [[4, 1, 2, 4, 7]])

    def test_in_increasing_order(self):
        self.assertEqual(ask([CREATE, 4], [SET_BLOCKS, 2, 8, 3], [BLOCK_RUNS, 0], [BLOCK_RUNS, 1], [BLOCK_RUNS, 2],
                             [BLOCK_RUNS, 3])[2:],
                         [[4, 8, 11, 12, 15], [4, 9, 10, 13, 14], [4, 0, 3, 4, 7], [4, 1, 2, 5, 6]])

    def test_at_most_the_first_64(self):
        self.assertEqual(ask([CREATE, 6], [BLOCK_RUNS, 0])[1:], [[64] + list(range(64))])
        self.assertEqual(ask([CREATE, 7], [BLOCK_RUNS, 0])[1:], [[64] + list(range(64))])
        self.assertEqual(ask([CREATE, 8], [BLOCK_RUNS, 0], [SET_BLOCKS, 1, 128], [BLOCK_RUNS, 0], [BLOCK_RUNS, 1],
                             [SET_BLOCKS, 1, 1], [BLOCK_RUNS, 0], [BLOCK_RUNS, 1])[1:],
                         [[64] + list(range(64)), [2], [64] + list(range(128, 192)), [64] + list(range(64)),
                          [2], [64] + list(range(1, 128, 2)), [64] + list(range(0, 128, 2))])
        self.assertEqual(ask([CREATE, 8], [SET_BLOCKS, 2, 1, 128], [BLOCK_RUNS, 2])[2:],
                         [[64] + list(range(128, 256, 2))])

    def test_one_run(self):
        self.assertEqual(ask([CREATE, 2], [ADD_GENERATOR, 1, 0], [SET_BLOCKS, 1, 2], [BLOCK_RUNS, 0], [BLOCK_RUNS, 1],
                             [ADD_GENERATOR, 2, 0], [BLOCK_RUNS, 0])[3:], [[1, 3], [1, 1], [2], [1, 3]])

    def test_no_such_block(self):
        for block in (4, 5, 8, 32, LARGEST):
            with self.subTest(block=block):
                self.assertEqual(ask(*FIVE, [SET_BLOCKS, 2, 1, 2], [BLOCK_RUNS, block])[4:], [[-2]])

    def test_many_designs(self):
        for factors, words, blocks in blocked_designs():
            with self.subTest(factors=factors, words=words, blocks=blocks):
                found = runs_of(factors, words)
                asked = range(2 ** len(blocks) + 1) if len(blocks) < 7 else [0, 1, 77, 2 ** len(blocks) - 1]
                told = ask_design(factors, words, [[BLOCK_RUNS, block] for block in asked], blocks)
                for block, answer in zip(asked, told):
                    part = [run for run in found if block_reckoned(blocks, run) == block][:64]
                    self.assertEqual(answer, row(part) if block < 2 ** len(blocks) else [-2])


class Confounded(unittest.TestCase):

    def test_no_masks(self):
        self.assertEqual(ask([CREATE, 4], [CONFOUNDED], [ADD_GENERATOR, 15, 1], [CONFOUNDED])[1:], [[0], [1], [0]])

    def test_no_generators(self):
        self.assertEqual(ask([CREATE, 4], [SET_BLOCKS, 2, 7, 9], [CONFOUNDED])[2:], [[3, 9, 7, 14]])

    def test_with_the_products_of_the_generators(self):
        self.assertEqual(ask([CREATE, 4], [ADD_GENERATOR, 15, 1], [SET_BLOCKS, 1, 3], [CONFOUNDED])[3:],
                         [[2, 3, 12]])

    def test_ordered_by_length_ahead_of_value(self):
        self.assertEqual(ask(*FIVE, [SET_BLOCKS, 1, 7], [CONFOUNDED])[4:], [[4, 12, 18, 7, 25]])

    def test_all_that_are_left(self):
        self.assertEqual(ask([CREATE, 3], [ADD_GENERATOR, 6, 0], [SET_BLOCKS, 2, 1, 2], [CONFOUNDED])[3:],
                         [[6, 1, 2, 4, 3, 5, 7]])
        self.assertEqual(ask([CREATE, 8], [SET_BLOCKS, *row([2 ** factor for factor in range(8)])], [CONFOUNDED])[2:],
                         [[255] + masks_in_order(range(1, 256))])

    def test_many_designs(self):
        for factors, words, blocks in blocked_designs():
            with self.subTest(factors=factors, words=words, blocks=blocks):
                generators = [word[0] for word in words]
                expected = span_of_masks(generators + blocks) - span_of_masks(generators)
                told = ask_design(factors, words, [[CONFOUNDED]], blocks)
                self.assertEqual(told, [row(masks_in_order(expected))])


class Removed(unittest.TestCase):
    """Every call that sets the generators removes the masks of the blocks when it succeeds, and only then."""

    setting = [[CREATE, 5], [ADD_GENERATOR, 7, 0], [ADD_GENERATOR, 25, 0], [SET_BLOCKS, *TWO_BLOCK_MASKS]]
    asks = [[SUMMARY], [CONFOUNDED], [BLOCK_RUNS, 0], [BLOCK_RUNS, 1], [BLOCK_RUNS, 3], [BLOCK_OF, 7]]

    def blocks_left(self, setting, call, answer):
        """How many masks of blocks there are behind the call, told by all that asks after them."""
        told = ask(*setting, call, *self.asks)[len(setting):]
        self.assertEqual(told[0], answer)
        count = told[1][2]
        self.assertEqual(told[2][0] == 0, count == 0)
        self.assertEqual(told[4] == [-2], count < 1)
        self.assertEqual(told[5] == [-2], count < 2)
        return count

    def test_setting(self):
        self.assertEqual(self.blocks_left(self.setting, [GENERATORS], [2, 7, 0, 25, 0]), 2)

    def test_create(self):
        self.assertEqual(self.blocks_left(self.setting, [CREATE, 5], [0]), 0)
        self.assertEqual(self.blocks_left(self.setting, [CREATE, 3], [0]), 0)
        self.assertEqual(self.blocks_left([[CREATE, 5], [SET_BLOCKS, *TWO_BLOCK_MASKS]], [CREATE, 5], [0]), 0)

    def test_create_refused(self):
        for factors in (0, 1, 9, LARGEST):
            self.assertEqual(self.blocks_left(self.setting, [CREATE, factors], [-22]), 2)

    def test_add_generator(self):
        self.assertEqual(self.blocks_left(self.setting, [ADD_GENERATOR, 1, 1], [3]), 0)

    def test_add_generator_refused(self):
        for mask, sign, code in ((0, 0, -22), (32, 0, -22), (1, 2, -22), (7, 0, -17), (30, 1, -17)):
            self.assertEqual(self.blocks_left(self.setting, [ADD_GENERATOR, mask, sign], [code]), 2)

    def test_remove_generator(self):
        self.assertEqual(self.blocks_left(self.setting, [REMOVE_GENERATOR, 0], [1]), 0)
        self.assertEqual(self.blocks_left(self.setting, [REMOVE_GENERATOR, 1], [1]), 0)

    def test_remove_generator_refused(self):
        for index in (2, LARGEST):
            self.assertEqual(self.blocks_left(self.setting, [REMOVE_GENERATOR, index], [-2]), 2)

    def test_fold(self):
        self.assertEqual(self.blocks_left(self.setting, [FOLD, 31], [1]), 0)

    def test_fold_that_leaves_the_generators(self):
        self.assertEqual(ask(*self.setting, [FOLD, 0], [GENERATORS])[4:], [[2], [2, 7, 0, 25, 0]])
        self.assertEqual(self.blocks_left(self.setting, [FOLD, 0], [2]), 0)
        self.assertEqual(self.blocks_left([[CREATE, 5], [SET_BLOCKS, *TWO_BLOCK_MASKS]], [FOLD, 31], [0]), 0)

    def test_fold_refused(self):
        for mask in (32, LARGEST):
            self.assertEqual(self.blocks_left(self.setting, [FOLD, mask], [-22]), 2)

    def test_take_best(self):
        self.assertEqual(self.blocks_left(self.setting, [TAKE_BEST, 1], [1]), 0)

    def test_take_best_that_leaves_the_generators(self):
        self.assertEqual(ask(*self.setting, [TAKE_BEST, 2], [GENERATORS])[4:], [[2], [2, 7, 0, 25, 0]])
        self.assertEqual(self.blocks_left(self.setting, [TAKE_BEST, 2], [2]), 0)

    def test_take_best_refused(self):
        for count in (0, 3, LARGEST):
            self.assertEqual(self.blocks_left(self.setting, [TAKE_BEST, count], [-22]), 2)
        seven = [[CREATE, 7], [SET_BLOCKS, *TWO_BLOCK_MASKS]]
        self.assertEqual(self.blocks_left(seven, [TAKE_BEST, 1], [-22]), 2)

    def test_calls_that_only_ask(self):
        for call, answer in (([PROJECT, 3], [4, 2, 1]), ([BEST, 5, 2], [2, 7, 25]), ([IS_EQUIVALENT, 2, 7, 25], [1])):
            self.assertEqual(self.blocks_left(self.setting, call, answer), 2)


class Requirement5(unittest.TestCase):

    def test_blocks_of_the_same_size_and_both_signs_equally_often(self):
        for factors, words, blocks in blocked_designs():
            if factors > 6:
                continue
            with self.subTest(factors=factors, words=words, blocks=blocks):
                asks = [[CONFOUNDED]] + [[BLOCK_RUNS, block] for block in range(2 ** len(blocks))]
                told = ask_design(factors, words, asks, blocks)
                self.assertEqual({answer[0] for answer in told[1:]}, {2 ** (factors - len(words) - len(blocks))})
                self.assertEqual(sorted(run for answer in told[1:] for run in answer[1:]), runs_of(factors, words))
                kept = set(told[0][1:]) | {mask for mask, sign in span(words)}
                for effect in range(2 ** factors):
                    for answer in told[1:]:
                        minus = sum(sign_of(effect, run) for run in answer[1:])
                        if effect in kept:
                            self.assertIn(minus, (0, answer[0]))
                        else:
                            self.assertEqual(minus * 2, answer[0])


if __name__ == "__main__":
    unittest.main()
