"""The calls that ask after words and effects: defining, resolution, pattern, aliases, representative, are_aliased,
is_clear."""

import unittest

from asking import (ADD_GENERATOR, ALIASES, ARE_ALIASED, CREATE, DEFINING, IS_CLEAR, LARGEST, PATTERN, REPRESENTATIVE,
                    RESOLUTION, aliases_of, ask, ask_design, flat, in_order, members, some_designs, span)

FIVE = [[CREATE, 5], [ADD_GENERATOR, 21, 1], [ADD_GENERATOR, 11, 0]]


class Defining(unittest.TestCase):

    def test_none(self):
        self.assertEqual(ask([CREATE, 2], [DEFINING])[-1], [0])

    def test_signs_are_added_modulo_2(self):
        self.assertEqual(ask(*FIVE, [DEFINING])[-1], [3, 11, 0, 21, 1, 30, 1])
        self.assertEqual(ask([CREATE, 3], [ADD_GENERATOR, 3, 1], [ADD_GENERATOR, 6, 1], [DEFINING])[-1],
                         [3, 3, 1, 5, 0, 6, 1])

    def test_ordered_by_length_ahead_of_value(self):
        self.assertEqual(ask([CREATE, 6], [ADD_GENERATOR, 15, 1], [ADD_GENERATOR, 48, 0], [DEFINING])[-1],
                         [3, 48, 0, 15, 1, 63, 1])

    def test_as_many_generators_as_factors(self):
        self.assertEqual(ask([CREATE, 2], [ADD_GENERATOR, 3, 1], [ADD_GENERATOR, 2, 0], [DEFINING])[-1],
                         [3, 1, 1, 2, 0, 3, 1])
        told = ask([CREATE, 8], *[[ADD_GENERATOR, 2 ** factor, 0] for factor in range(8)], [DEFINING])[-1]
        self.assertEqual(told, flat(in_order([(mask, 0) for mask in range(1, 256)])))

    def test_many_designs(self):
        for factors, words in some_designs():
            with self.subTest(factors=factors, words=words):
                expected = flat(in_order([word for word in span(words) if word[0] != 0]))
                self.assertEqual(ask_design(factors, words, [[DEFINING]]), [expected])


class Resolution(unittest.TestCase):

    def test_none(self):
        self.assertEqual(ask([CREATE, 8], [RESOLUTION])[-1], [0])

    def test_one_word_of_each_length(self):
        for factors in range(2, 9):
            for length in range(1, factors + 1):
                with self.subTest(factors=factors, length=length):
                    self.assertEqual(ask([CREATE, factors], [ADD_GENERATOR, 2 ** length - 1, 1], [RESOLUTION])[-1],
                                     [length])

    def test_a_product_may_be_shorter_than_the_generators(self):
        self.assertEqual(ask([CREATE, 5], [ADD_GENERATOR, 15, 0], [ADD_GENERATOR, 30, 0], [RESOLUTION])[-1], [2])

    def test_many_designs(self):
        for factors, words in some_designs():
            with self.subTest(factors=factors, words=words):
                lengths = [len(members(mask)) for mask, sign in span(words) if mask != 0]
                self.assertEqual(ask_design(factors, words, [[RESOLUTION]]), [[min(lengths, default=0)]])


class Pattern(unittest.TestCase):

    def test_none(self):
        self.assertEqual(ask([CREATE, 2], [PATTERN])[-1], [2, 0, 0])
        self.assertEqual(ask([CREATE, 8], [PATTERN])[-1], [8, 0, 0, 0, 0, 0, 0, 0, 0])

    def test_counts_by_length(self):
        self.assertEqual(ask(*FIVE, [PATTERN])[-1], [5, 0, 0, 2, 1, 0])
        self.assertEqual(ask([CREATE, 2], [ADD_GENERATOR, 1, 0], [ADD_GENERATOR, 2, 1], [PATTERN])[-1], [2, 2, 1])
        self.assertEqual(ask([CREATE, 3], [ADD_GENERATOR, 7, 1], [PATTERN])[-1], [3, 0, 0, 1])

    def test_all_masks(self):
        told = ask([CREATE, 8], *[[ADD_GENERATOR, 2 ** factor, 1] for factor in range(8)], [PATTERN])[-1]
        self.assertEqual(told, [8, 8, 28, 56, 70, 56, 28, 8, 1])

    def test_many_designs(self):
        for factors, words in some_designs():
            with self.subTest(factors=factors, words=words):
                counts = [0] * factors
                for mask, sign in span(words):
                    if mask != 0:
                        counts[len(members(mask)) - 1] += 1
                self.assertEqual(ask_design(factors, words, [[PATTERN]]), [[factors] + counts])


class Aliases(unittest.TestCase):

    def test_no_generators(self):
        self.assertEqual(ask([CREATE, 3], [ALIASES, 0], [ALIASES, 5], [ALIASES, 7])[1:],
                         [[1, 0, 0], [1, 5, 0], [1, 7, 0]])

    def test_empty_effect(self):
        self.assertEqual(ask(*FIVE, [ALIASES, 0])[-1], [4, 0, 0, 11, 0, 21, 1, 30, 1])

    def test_signs(self):
        self.assertEqual(ask([CREATE, 3], [ADD_GENERATOR, 7, 1], [ALIASES, 1], [ALIASES, 6], [ALIASES, 7])[2:],
                         [[2, 1, 0, 6, 1], [2, 1, 1, 6, 0], [2, 0, 1, 7, 0]])

    def test_ordered_by_length_ahead_of_value(self):
        self.assertEqual(ask(*FIVE, [ALIASES, 7])[-1], [4, 12, 0, 18, 1, 7, 0, 25, 1])

    def test_out_of_range(self):
        for mask in (32, 33, LARGEST):
            with self.subTest(mask=mask):
                self.assertEqual(ask(*FIVE, [ALIASES, mask], [ALIASES, 31])[3:], [[-22], flat(aliases_of(
                    [(21, 1), (11, 0)], 31))])

    def test_many_designs(self):
        for factors, words in some_designs():
            with self.subTest(factors=factors, words=words):
                effects = range(0, 2 ** factors, 1 if factors < 6 else 7)
                told = ask_design(factors, words, [[ALIASES, effect] for effect in effects])
                self.assertEqual(told, [flat(aliases_of(words, effect)) for effect in effects])
                self.assertEqual({answer[0] for answer in told}, {2 ** len(words)})


class Representative(unittest.TestCase):

    def test_itself(self):
        self.assertEqual(ask([CREATE, 3], [REPRESENTATIVE, 0], [REPRESENTATIVE, 7])[1:], [[0, 0], [7, 0]])

    def test_another_with_its_sign(self):
        self.assertEqual(ask([CREATE, 3], [ADD_GENERATOR, 7, 1], [REPRESENTATIVE, 6], [REPRESENTATIVE, 7],
                             [REPRESENTATIVE, 1], [REPRESENTATIVE, 0])[2:], [[1, 1], [0, 1], [1, 0], [0, 0]])

    def test_shorter_ahead_of_smaller(self):
        self.assertEqual(ask(*FIVE, [REPRESENTATIVE, 15], [REPRESENTATIVE, 7])[3:], [[4, 0], [12, 0]])

    def test_smaller_of_the_same_length(self):
        self.assertEqual(ask([CREATE, 4], [ADD_GENERATOR, 15, 1], [REPRESENTATIVE, 12], [REPRESENTATIVE, 3])[2:],
                         [[3, 1], [3, 0]])

    def test_out_of_range(self):
        self.assertEqual(ask(*FIVE, [REPRESENTATIVE, 32], [REPRESENTATIVE, LARGEST], [REPRESENTATIVE, 31])[3:],
                         [[-22], [-22], [1, 1]])

    def test_many_designs(self):
        for factors, words in some_designs():
            with self.subTest(factors=factors, words=words):
                effects = range(0, 2 ** factors, 1 if factors < 6 else 5)
                told = ask_design(factors, words, [[REPRESENTATIVE, effect] for effect in effects])
                self.assertEqual(told, [list(aliases_of(words, effect)[0]) for effect in effects])


class AreAliased(unittest.TestCase):

    def test_signs(self):
        self.assertEqual(ask([CREATE, 3], [ADD_GENERATOR, 7, 1], [ARE_ALIASED, 1, 6], [ARE_ALIASED, 6, 1],
                             [ARE_ALIASED, 0, 7], [ARE_ALIASED, 5, 2])[2:], [[1], [1], [1], [1]])
        self.assertEqual(ask(*FIVE, [ARE_ALIASED, 7, 12], [ARE_ALIASED, 18, 7], [ARE_ALIASED, 18, 12])[3:],
                         [[0], [1], [1]])

    def test_an_effect_with_itself(self):
        self.assertEqual(ask([CREATE, 3], [ARE_ALIASED, 0, 0], [ARE_ALIASED, 5, 5])[1:], [[0], [0]])
        self.assertEqual(ask(*FIVE, [ARE_ALIASED, 0, 0], [ARE_ALIASED, 21, 21])[3:], [[0], [0]])

    def test_not_aliased(self):
        self.assertEqual(ask([CREATE, 3], [ARE_ALIASED, 0, 1], [ARE_ALIASED, 7, 3])[1:], [[-33], [-33]])
        self.assertEqual(ask(*FIVE, [ARE_ALIASED, 1, 2], [ARE_ALIASED, 0, 31])[3:], [[-33], [-33]])

    def test_out_of_range(self):
        self.assertEqual(ask(*FIVE, [ARE_ALIASED, 32, 0], [ARE_ALIASED, 0, 32], [ARE_ALIASED, LARGEST, LARGEST],
                             [ARE_ALIASED, 31, 31])[3:], [[-22], [-22], [-22], [0]])

    def test_out_of_range_is_checked_ahead_of_not_aliased(self):
        # 32 and 32, and 32 and 43, have products that are in the subgroup; 33 and 32 have one that is not.
        self.assertEqual(ask(*FIVE, [ARE_ALIASED, 32, 32], [ARE_ALIASED, 32, 43], [ARE_ALIASED, 33, 32])[3:],
                         [[-22], [-22], [-22]])

    def test_many_designs(self):
        for factors, words in some_designs():
            with self.subTest(factors=factors, words=words):
                signs = dict(span(words))
                pairs = [(first, first * 5 + step & 2 ** factors - 1) for step in (0, 3, 6)
                         for first in range(0, 2 ** factors, 1 if factors < 6 else 9)]
                told = ask_design(factors, words, [[ARE_ALIASED, first, second] for first, second in pairs])
                self.assertEqual(told, [[signs.get(first ^ second, -33)] for first, second in pairs])


class IsClear(unittest.TestCase):

    def test_no_generators(self):
        self.assertEqual(ask([CREATE, 2], [IS_CLEAR, 1], [IS_CLEAR, 2], [IS_CLEAR, 3])[1:], [[1], [1], [1]])

    def test_aliased_with_the_intercept(self):
        self.assertEqual(ask([CREATE, 5], [ADD_GENERATOR, 1, 1], [ADD_GENERATOR, 30, 0], [IS_CLEAR, 1])[-1], [0])
        self.assertEqual(ask([CREATE, 5], [ADD_GENERATOR, 3, 0], [IS_CLEAR, 3], [IS_CLEAR, 12])[2:], [[0], [1]])

    def test_aliased_with_length_1(self):
        self.assertEqual(ask([CREATE, 5], [ADD_GENERATOR, 3, 0], [IS_CLEAR, 1], [IS_CLEAR, 2], [IS_CLEAR, 4],
                             [IS_CLEAR, 5])[2:], [[0], [0], [1], [0]])
        self.assertEqual(ask([CREATE, 5], [ADD_GENERATOR, 7, 1], [IS_CLEAR, 3], [IS_CLEAR, 1], [IS_CLEAR, 8],
                             [IS_CLEAR, 9])[2:], [[0], [0], [1], [1]])

    def test_aliased_with_length_2(self):
        self.assertEqual(ask([CREATE, 5], [ADD_GENERATOR, 15, 0], [IS_CLEAR, 3], [IS_CLEAR, 1], [IS_CLEAR, 17])[2:],
                         [[0], [1], [1]])

    def test_length_3_does_no_harm(self):
        self.assertEqual(ask([CREATE, 5], [ADD_GENERATOR, 31, 1], [IS_CLEAR, 3], [IS_CLEAR, 16])[2:], [[1], [1]])

    def test_out_of_range(self):
        for mask in (0, 7, 11, 31, 32, 33, 64, 2 ** 31, LARGEST):
            with self.subTest(mask=mask):
                self.assertEqual(ask(*FIVE, [IS_CLEAR, mask])[-1], [-22])

    def test_many_designs(self):
        for factors, words in some_designs():
            with self.subTest(factors=factors, words=words):
                effects = range(2 ** factors)
                told = ask_design(factors, words, [[IS_CLEAR, effect] for effect in effects])
                for effect, answer in zip(effects, told):
                    short = [mask for mask, sign in aliases_of(words, effect) if len(members(mask)) <= 2]
                    if len(members(effect)) in (1, 2):
                        self.assertEqual(answer, [1 if short == [effect] else 0])
                    else:
                        self.assertEqual(answer, [-22])


if __name__ == "__main__":
    unittest.main()
