"""The calls that change the design: create, add_generator, remove_generator; and generators, which shows it."""

import unittest

from asking import (ADD_GENERATOR, ALIASES, CREATE, DEFINING, GENERATORS, IS_RUN, LARGEST, PATTERN, REMOVE_GENERATOR,
                    REPRESENTATIVE, RESOLUTION, RUN_COUNT, RUNS, ask)

# One of each call of the document but create, with arguments in their ranges for a design of some size.
OTHER_CALLS = ([1, 3, 0], [2, 0], [3], [4], [5], [6], [7, 1], [8, 1], [9, 1, 1], [10, 1], [11], [12, 0], [13, 0],
               [14, 1], [15, 1], [16, 1, 1], [16, 0], [17, 0], [18, 0], [19], [20, 1, 2, 5, -5], [21, 2, 5, -5],
               [22, 1, 0, 2, 1, 2], [22, 0, 0], [23, 4, 1], [24, 1], [25, 2, 3, 5],
               [25, 0], [26])

# Arguments that each call refuses once there is a design: -11 comes ahead of that.
WRONG_CALLS = ([1, 0, 0], [1, LARGEST, LARGEST], [2, LARGEST], [7, LARGEST], [8, LARGEST], [9, LARGEST, 0],
               [9, 1, 2], [10, 0], [10, LARGEST], [12, LARGEST], [13, LARGEST])


class NotCreated(unittest.TestCase):

    def test_each_call_on_a_new_instance(self):
        for call in OTHER_CALLS + WRONG_CALLS:
            with self.subTest(call=call):
                self.assertEqual(ask(call), [[-11]])

    def test_each_call_behind_a_refused_create(self):
        for call in OTHER_CALLS + WRONG_CALLS:
            with self.subTest(call=call):
                self.assertEqual(ask([CREATE, 9], call, [CREATE, 1], call), [[-22], [-11], [-22], [-11]])

    def test_a_refused_call_leaves_nothing_for_the_create(self):
        self.assertEqual(ask([ADD_GENERATOR, 3, 0], [CREATE, 3], [GENERATORS]), [[-11], [0], [0]])

    def test_all_of_them_in_one_request(self):
        self.assertEqual(ask(*OTHER_CALLS, [CREATE, 2], [RUN_COUNT]), [[-11]] * len(OTHER_CALLS) + [[0], [4]])


class Create(unittest.TestCase):

    def test_each_number_of_factors(self):
        for factors in range(2, 9):
            with self.subTest(factors=factors):
                self.assertEqual(ask([CREATE, factors], [GENERATORS], [RUN_COUNT], [PATTERN]),
                                 [[0], [0], [2 ** factors], [factors] + [0] * factors])

    def test_out_of_range(self):
        for factors in (0, 1, 9, 10, 32, 64, LARGEST):
            with self.subTest(factors=factors):
                self.assertEqual(ask([CREATE, factors], [RUN_COUNT]), [[-22], [-11]])

    def test_refused_create_leaves_the_state(self):
        for factors in (0, 1, 9, LARGEST):
            with self.subTest(factors=factors):
                self.assertEqual(ask([CREATE, 5], [ADD_GENERATOR, 7, 1], [CREATE, factors], [GENERATORS], [PATTERN],
                                     [RUN_COUNT]),
                                 [[0], [1], [-22], [1, 7, 1], [5, 0, 0, 1, 0, 0], [16]])

    def test_second_create_starts_anew(self):
        self.assertEqual(ask([CREATE, 5], [ADD_GENERATOR, 7, 1], [ADD_GENERATOR, 24, 0], [CREATE, 3], [GENERATORS],
                             [DEFINING], [PATTERN], [RUNS, 0], [IS_RUN, 8], [ADD_GENERATOR, 7, 0]),
                         [[0], [1], [2], [0], [0], [0], [3, 0, 0, 0], [8, 0, 1, 2, 3, 4, 5, 6, 7], [-22], [1]])

    def test_second_create_with_the_same_number(self):
        self.assertEqual(ask([CREATE, 3], [ADD_GENERATOR, 7, 1], [CREATE, 3], [GENERATORS], [RUN_COUNT]),
                         [[0], [1], [0], [0], [8]])


class AddGenerator(unittest.TestCase):

    def test_counts_and_order(self):
        self.assertEqual(ask([CREATE, 8], [ADD_GENERATOR, 240, 1], [ADD_GENERATOR, 3, 0], [ADD_GENERATOR, 255, 1],
                             [GENERATORS]),
                         [[0], [1], [2], [3], [3, 240, 1, 3, 0, 255, 1]])

    def test_first_and_last_mask_of_each_size(self):
        for factors in range(2, 9):
            last = 2 ** factors - 1
            with self.subTest(factors=factors):
                self.assertEqual(ask([CREATE, factors], [ADD_GENERATOR, 0, 0], [ADD_GENERATOR, last + 1, 0],
                                     [ADD_GENERATOR, last, 0], [ADD_GENERATOR, 1, 1], [GENERATORS]),
                                 [[0], [-22], [-22], [1], [2], [2, last, 0, 1, 1]])

    def test_out_of_range(self):
        for mask, sign in ((0, 0), (0, 1), (16, 0), (17, 1), (LARGEST, 0), (15, 2), (15, LARGEST), (0, 2),
                           (LARGEST, LARGEST)):
            with self.subTest(mask=mask, sign=sign):
                self.assertEqual(ask([CREATE, 4], [ADD_GENERATOR, mask, sign], [GENERATORS]), [[0], [-22], [0]])

    def test_already_defining(self):
        setting = [[CREATE, 5], [ADD_GENERATOR, 7, 1], [ADD_GENERATOR, 28, 0], [ADD_GENERATOR, 3, 1]]
        for mask in (7, 28, 27, 3, 4, 31, 24):
            for sign in (0, 1):
                with self.subTest(mask=mask, sign=sign):
                    self.assertEqual(ask(*setting, [ADD_GENERATOR, mask, sign], [GENERATORS])[4:],
                                     [[-17], [3, 7, 1, 28, 0, 3, 1]])

    def test_out_of_range_is_checked_ahead_of_already_defining(self):
        self.assertEqual(ask([CREATE, 3], [ADD_GENERATOR, 7, 0], [ADD_GENERATOR, 7, 2], [ADD_GENERATOR, 7, 1],
                             [ADD_GENERATOR, 7, LARGEST], [GENERATORS]),
                         [[0], [1], [-22], [-17], [-22], [1, 7, 0]])

    def test_as_many_generators_as_factors(self):
        for factors in range(2, 9):
            adds = [[ADD_GENERATOR, 2 ** factor, factor % 2] for factor in range(factors)]
            more = [[ADD_GENERATOR, mask, 0] for mask in range(1, min(2 ** factors, 180))]
            with self.subTest(factors=factors):
                told = ask([CREATE, factors], *adds, *more, [RUN_COUNT], [RUNS, 0])
                run = sum(2 ** factor for factor in range(0, factors, 2))
                self.assertEqual(told, [[0]] + [[count] for count in range(1, factors + 1)] + [[-17]] * len(more)
                                 + [[1], [1, run]])


class RemoveGenerator(unittest.TestCase):

    def setting(self):
        return [[CREATE, 6], [ADD_GENERATOR, 3, 0], [ADD_GENERATOR, 12, 1], [ADD_GENERATOR, 48, 0]]

    def test_in_the_middle(self):
        self.assertEqual(ask(*self.setting(), [REMOVE_GENERATOR, 1], [GENERATORS], [DEFINING], [RUN_COUNT])[4:],
                         [[2], [2, 3, 0, 48, 0], [3, 3, 0, 48, 0, 51, 0], [16]])

    def test_first_and_last(self):
        self.assertEqual(ask(*self.setting(), [REMOVE_GENERATOR, 0], [GENERATORS])[4:], [[2], [2, 12, 1, 48, 0]])
        self.assertEqual(ask(*self.setting(), [REMOVE_GENERATOR, 2], [GENERATORS])[4:], [[2], [2, 3, 0, 12, 1]])

    def test_no_such_generator(self):
        for index in (3, 4, 64, LARGEST):
            with self.subTest(index=index):
                self.assertEqual(ask(*self.setting(), [REMOVE_GENERATOR, index], [GENERATORS])[4:],
                                 [[-2], [3, 3, 0, 12, 1, 48, 0]])

    def test_until_none_is_left(self):
        self.assertEqual(ask(*self.setting(), [REMOVE_GENERATOR, 0], [REMOVE_GENERATOR, 0], [REMOVE_GENERATOR, 0],
                             [REMOVE_GENERATOR, 0], [GENERATORS], [RESOLUTION], [RUN_COUNT])[4:],
                         [[2], [1], [0], [-2], [0], [0], [64]])

    def test_a_removed_word_can_be_added_again_at_the_end(self):
        self.assertEqual(ask(*self.setting(), [REMOVE_GENERATOR, 1], [ADD_GENERATOR, 12, 0], [GENERATORS],
                             [ADD_GENERATOR, 51, 0], [ADD_GENERATOR, 60, 0])[4:],
                         [[2], [3], [3, 3, 0, 48, 0, 12, 0], [-17], [-17]])


class Generators(unittest.TestCase):

    def test_none(self):
        self.assertEqual(ask([CREATE, 4], [GENERATORS]), [[0], [0]])

    def test_as_added_not_by_mask(self):
        self.assertEqual(ask([CREATE, 3], [ADD_GENERATOR, 7, 1], [ADD_GENERATOR, 4, 0], [ADD_GENERATOR, 2, 1],
                             [GENERATORS])[-1], [3, 7, 1, 4, 0, 2, 1])

    def test_asking_changes_nothing(self):
        asks = [[GENERATORS], [DEFINING], [RESOLUTION], [PATTERN], [ALIASES, 3], [REPRESENTATIVE, 3], [RUN_COUNT],
                [RUNS, 0], [IS_RUN, 1]]
        told = ask([CREATE, 4], [ADD_GENERATOR, 14, 1], [ADD_GENERATOR, 3, 0], *asks, *asks)[3:]
        self.assertEqual(told[:len(asks)], told[len(asks):])


if __name__ == "__main__":
    unittest.main()
