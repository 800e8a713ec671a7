"""The calls that change the design: create, add_generator, remove_generator; generators and summary, which show it;
and that refused calls change nothing."""

import unittest

from asking import (ADD_GENERATOR, ALIASES, BEST, BLOCK_OF, BLOCK_RUNS, CONFOUNDED, CREATE, DEFINING, FOLD, GENERATORS,
                    IS_EQUIVALENT, IS_RUN, LARGEST, PATTERN, PROJECT, REMOVE_GENERATOR, REPRESENTATIVE, RESOLUTION,
                    RUN_COUNT, RUNS, SET_BLOCKS, SUMMARY, TAKE_BEST, ask)

# One of each call of the document but create, with arguments in their ranges for a design of some size.
OTHER_CALLS = ([1, 3, 0], [2, 0], [3], [4], [5], [6], [7, 1], [8, 1], [9, 1, 1], [10, 1], [11], [12, 0], [13, 0],
               [14, 1], [15, 1], [16, 1, 1], [16, 0], [17, 0], [18, 0], [19], [20, 1, 2, 5, -5], [21, 2, 5, -5],
               [22, 1, 0, 2, 1, 2], [22, 0, 0], [23, 4, 1], [24, 1], [25, 2, 3, 5], [25, 0], [26])

# What each call refuses on the design of REFUSING, and how; ahead of the first create -11 comes ahead of that.
REFUSED = (([0, 0], -22), ([0, 1], -22), ([0, 9], -22), ([0, LARGEST], -22),
           ([1, 0, 0], -22), ([1, 32, 0], -22), ([1, 1, 2], -22), ([1, LARGEST, LARGEST], -22), ([1, 30, 0], -17),
           ([2, 2], -2), ([2, LARGEST], -2), ([7, 32], -22), ([7, LARGEST], -22), ([8, 32], -22), ([8, LARGEST], -22),
           ([9, 32, 0], -22), ([9, LARGEST, LARGEST], -22), ([9, 1, 2], -33), ([10, 0], -22), ([10, 7], -22),
           ([10, 32], -22), ([10, LARGEST], -22), ([12, 9], -2), ([12, LARGEST], -2), ([13, 32], -22),
           ([13, LARGEST], -22), ([14, 32], -22), ([14, LARGEST], -22), ([15, 32], -22), ([15, LARGEST], -22),
           ([16, 1, 32], -22), ([16, 1, LARGEST], -22), ([16, 1, 0], -22), ([16, 1, 30], -22), ([16, 2, 4, 4], -22),
           ([16, 256] + [8] * 256, -22), ([17, 1], -22), ([17, 32], -22), ([17, LARGEST], -22), ([18, 4], -2),
           ([18, LARGEST], -2), ([20, 32, 8] + [1] * 8, -22), ([20, LARGEST, 8] + [1] * 8, -22),
           ([20, 1, 7] + [1] * 7, -22), ([20, 1, 0], -22), ([20, 1, 8, 1000001] + [1] * 7, -22),
           ([21, 9] + [1] * 9, -22), ([21, 0], -22), ([21, 256] + [1] * 256, -22), ([21, 8] + [1] * 7 + [-1000001], -22),
           ([22, 1, 32, 0], -22), ([22, 0, 1, 32], -22), ([22, 0, 1, 0], -22), ([22, 1, LARGEST, 1, LARGEST], -22),
           ([22, 0, 13] + list(range(1, 14)), -22), ([23, 1, 1], -22), ([23, 7, 1], -22), ([23, 4, 0], -22),
           ([23, 4, 3], -22), ([23, 2, 2], -22), ([23, LARGEST, LARGEST], -22), ([24, 0], -22), ([24, 3], -22),
           ([24, LARGEST], -22), ([25, 1, 0], -22), ([25, 1, 32], -22), ([25, 2, 7, 7], -22),
           ([25, 256] + [LARGEST] * 256, -22))

WRONG_CALLS = tuple(call for call, code in REFUSED if call[0] != CREATE)

REFUSING = ([CREATE, 5], [ADD_GENERATOR, 7, 1], [ADD_GENERATOR, 25, 0], [SET_BLOCKS, 2, 1, 2])


class NotCreated(unittest.TestCase):

    def test_each_call_on_a_new_instance(self):
        for call in OTHER_CALLS + WRONG_CALLS:
            with self.subTest(call=call):
                self.assertEqual(ask(call), [[-11]])

    def test_each_call_behind_a_refused_create(self):
        for call in OTHER_CALLS + WRONG_CALLS:
            with self.subTest(call=call):
                self.assertEqual(ask([CREATE, 9], call, [CREATE, 1], call), [[-22], [-11], [-22], [-11]])

    def test_a_refused_call_leaves_nothing_for_the_create(self):
        self.assertEqual(ask([ADD_GENERATOR, 3, 0], [CREATE, 3], [GENERATORS]), [[-11], [0], [0]])

    def test_all_of_them_in_one_request(self):
        self.assertEqual(ask(*OTHER_CALLS, [CREATE, 2], [RUN_COUNT]), [[-11]] * len(OTHER_CALLS) + [[0], [4]])


class Create(unittest.TestCase):

    def test_each_number_of_factors(self):
        for factors in range(2, 9):
            with self.subTest(factors=factors):
                self.assertEqual(ask([CREATE, factors], [GENERATORS], [RUN_COUNT], [PATTERN]),
                                 [[0], [0], [2 ** factors], [factors] + [0] * factors])

    def test_out_of_range(self):
        for factors in (0, 1, 9, 10, 32, 64, LARGEST):
            with self.subTest(factors=factors):
                self.assertEqual(ask([CREATE, factors], [RUN_COUNT]), [[-22], [-11]])

    def test_refused_create_leaves_the_state(self):
        for factors in (0, 1, 9, LARGEST):
            with self.subTest(factors=factors):
                self.assertEqual(ask([CREATE, 5], [ADD_GENERATOR, 7, 1], [CREATE, factors], [GENERATORS], [PATTERN],
                                     [RUN_COUNT]),
                                 [[0], [1], [-22], [1, 7, 1], [5, 0, 0, 1, 0, 0], [16]])

    def test_second_create_starts_anew(self):
        self.assertEqual(ask([CREATE, 5], [ADD_GENERATOR, 7, 1], [ADD_GENERATOR, 24, 0], [CREATE, 3], [GENERATORS],
                             [DEFINING], [PATTERN], [RUNS, 0], [IS_RUN, 8], [ADD_GENERATOR, 7, 0]),
                         [[0], [1], [2], [0], [0], [0], [3, 0, 0, 0], [8, 0, 1, 2, 3, 4, 5, 6, 7], [-22], [1]])

    def test_second_create_with_the_same_number(self):
        self.assertEqual(ask([CREATE, 3], [ADD_GENERATOR, 7, 1], [CREATE, 3], [GENERATORS], [RUN_COUNT]),
                         [[0], [1], [0], [0], [8]])


class AddGenerator(unittest.TestCase):

    def test_counts_and_order(self):
        self.assertEqual(ask([CREATE, 8], [ADD_GENERATOR, 240, 1], [ADD_GENERATOR, 3, 0], [ADD_GENERATOR, 255, 1],
                             [GENERATORS]),
                         [[0], [1], [2], [3], [3, 240, 1, 3, 0, 255, 1]])

    def test_first_and_last_mask_of_each_size(self):
        for factors in range(2, 9):
            last = 2 ** factors - 1
            with self.subTest(factors=factors):
                self.assertEqual(ask([CREATE, factors], [ADD_GENERATOR, 0, 0], [ADD_GENERATOR, last + 1, 0],
                                     [ADD_GENERATOR, last, 0], [ADD_GENERATOR, 1, 1], [GENERATORS]),
                                 [[0], [-22], [-22], [1], [2], [2, last, 0, 1, 1]])

    def test_out_of_range(self):
        for mask, sign in ((0, 0), (0, 1), (16, 0), (17, 1), (LARGEST, 0), (15, 2), (15, LARGEST), (0, 2),
                           (LARGEST, LARGEST)):
            with self.subTest(mask=mask, sign=sign):
                self.assertEqual(ask([CREATE, 4], [ADD_GENERATOR, mask, sign], [GENERATORS]), [[0], [-22], [0]])

    def test_already_defining(self):
        setting = [[CREATE, 5], [ADD_GENERATOR, 7, 1], [ADD_GENERATOR, 28, 0], [ADD_GENERATOR, 3, 1]]
        for mask in (7, 28, 27, 3, 4, 31, 24):
            for sign in (0, 1):
                with self.subTest(mask=mask, sign=sign):
                    self.assertEqual(ask(*setting, [ADD_GENERATOR, mask, sign], [GENERATORS])[4:],
                                     [[-17], [3, 7, 1, 28, 0, 3, 1]])

    def test_out_of_range_is_checked_ahead_of_already_defining(self):
        self.assertEqual(ask([CREATE, 3], [ADD_GENERATOR, 7, 0], [ADD_GENERATOR, 7, 2], [ADD_GENERATOR, 7, 1],
                             [ADD_GENERATOR, 7, LARGEST], [GENERATORS]),
                         [[0], [1], [-22], [-17], [-22], [1, 7, 0]])

    def test_as_many_generators_as_factors(self):
        for factors in range(2, 9):
            adds = [[ADD_GENERATOR, 2 ** factor, factor % 2] for factor in range(factors)]
            more = [[ADD_GENERATOR, mask, 0] for mask in range(1, min(2 ** factors, 180))]
            with self.subTest(factors=factors):
                told = ask([CREATE, factors], *adds, *more, [RUN_COUNT], [RUNS, 0])
                run = sum(2 ** factor for factor in range(0, factors, 2))
                self.assertEqual(told, [[0]] + [[count] for count in range(1, factors + 1)] + [[-17]] * len(more)
                                 + [[1], [1, run]])


class RemoveGenerator(unittest.TestCase):

    def setting(self):
        return [[CREATE, 6], [ADD_GENERATOR, 3, 0], [ADD_GENERATOR, 12, 1], [ADD_GENERATOR, 48, 0]]

    def test_in_the_middle(self):
        self.assertEqual(ask(*self.setting(), [REMOVE_GENERATOR, 1], [GENERATORS], [DEFINING], [RUN_COUNT])[4:],
                         [[2], [2, 3, 0, 48, 0], [3, 3, 0, 48, 0, 51, 0], [16]])

    def test_first_and_last(self):
        self.assertEqual(ask(*self.setting(), [REMOVE_GENERATOR, 0], [GENERATORS])[4:], [[2], [2, 12, 1, 48, 0]])
        self.assertEqual(ask(*self.setting(), [REMOVE_GENERATOR, 2], [GENERATORS])[4:], [[2], [2, 3, 0, 12, 1]])

    def test_no_such_generator(self):
        for index in (3, 4, 64, LARGEST):
            with self.subTest(index=index):
                self.assertEqual(ask(*self.setting(), [REMOVE_GENERATOR, index], [GENERATORS])[4:],
                                 [[-2], [3, 3, 0, 12, 1, 48, 0]])

    def test_until_none_is_left(self):
        self.assertEqual(ask(*self.setting(), [REMOVE_GENERATOR, 0], [REMOVE_GENERATOR, 0], [REMOVE_GENERATOR, 0],
                             [REMOVE_GENERATOR, 0], [GENERATORS], [RESOLUTION], [RUN_COUNT])[4:],
                         [[2], [1], [0], [-2], [0], [0], [64]])

    def test_a_removed_word_can_be_added_again_at_the_end(self):
        self.assertEqual(ask(*self.setting(), [REMOVE_GENERATOR, 1], [ADD_GENERATOR, 12, 0], [GENERATORS],
                             [ADD_GENERATOR, 51, 0], [ADD_GENERATOR, 60, 0])[4:],
                         [[2], [3], [3, 3, 0, 48, 0, 12, 0], [-17], [-17]])


class Generators(unittest.TestCase):

    def test_none(self):
        self.assertEqual(ask([CREATE, 4], [GENERATORS]), [[0], [0]])

    def test_as_added_not_by_mask(self):
        self.assertEqual(ask([CREATE, 3], [ADD_GENERATOR, 7, 1], [ADD_GENERATOR, 4, 0], [ADD_GENERATOR, 2, 1],
                             [GENERATORS])[-1], [3, 7, 1, 4, 0, 2, 1])

    def test_asking_changes_nothing(self):
        asks = [[GENERATORS], [DEFINING], [RESOLUTION], [PATTERN], [ALIASES, 3], [REPRESENTATIVE, 3], [RUN_COUNT],
                [RUNS, 0], [IS_RUN, 1]]
        told = ask([CREATE, 4], [ADD_GENERATOR, 14, 1], [ADD_GENERATOR, 3, 0], *asks, *asks)[3:]
        self.assertEqual(told[:len(asks)], told[len(asks):])


class Summary(unittest.TestCase):

    def test_a_new_design(self):
        for factors in range(2, 9):
            with self.subTest(factors=factors):
                self.assertEqual(ask([CREATE, factors], [SUMMARY])[1], [factors, 0, 0, 2 ** factors])

    def test_generators_and_blocks(self):
        self.assertEqual(ask([CREATE, 6], [ADD_GENERATOR, 15, 1], [SUMMARY], [SET_BLOCKS, 3, 1, 2, 16], [SUMMARY],
                             [ADD_GENERATOR, 51, 0], [SUMMARY], [SET_BLOCKS, 1, 3], [SUMMARY], [REMOVE_GENERATOR, 0],
                             [SUMMARY], [FOLD, 1], [SUMMARY], [TAKE_BEST, 2], [SUMMARY])[2::2],
                         [[6, 1, 0, 32], [6, 1, 3, 32], [6, 2, 0, 16], [6, 2, 1, 16], [6, 1, 0, 32], [6, 0, 0, 64],
                          [6, 2, 0, 16]])

    def test_as_many_generators_as_factors(self):
        self.assertEqual(ask([CREATE, 2], [ADD_GENERATOR, 3, 1], [ADD_GENERATOR, 1, 1], [SUMMARY])[-1], [2, 2, 0, 1])


class Refused(unittest.TestCase):

    asks = ([SUMMARY], [GENERATORS], [DEFINING], [RUNS, 0], [CONFOUNDED], [BLOCK_OF, 8], [BLOCK_RUNS, 0],
            [BLOCK_RUNS, 1], [BLOCK_RUNS, 2], [BLOCK_RUNS, 3])

    def test_codes_and_that_nothing_is_changed(self):
        for call, code in REFUSED:
            with self.subTest(call=call):
                told = ask(*REFUSING, *self.asks, call, *self.asks)[len(REFUSING):]
                count = len(self.asks)
                self.assertEqual(told[count], [code])
                self.assertEqual(told[:count], told[count + 1:])
                self.assertEqual(told[0], [5, 2, 2, 8])

    def test_all_of_them_in_one_request(self):
        told = ask(*REFUSING, *self.asks, *[call for call, code in REFUSED], *self.asks)[len(REFUSING):]
        count = len(self.asks)
        self.assertEqual(told[count:-count], [[code] for call, code in REFUSED])
        self.assertEqual(told[:count], told[-count:])

    def test_calls_that_only_ask_change_nothing(self):
        others = [[PROJECT, 7], [BEST, 6, 2], [IS_EQUIVALENT, 2, 7, 25], [20, 1, 8] + [3] * 8, [21, 8] + [3] * 8,
                  [22, 1, 0, 2, 1, 2], [BLOCK_OF, 0], [IS_RUN, 1]]
        told = ask(*REFUSING, *self.asks, *others, *self.asks)[len(REFUSING):]
        self.assertEqual(told[:len(self.asks)], told[-len(self.asks):])


if __name__ == "__main__":
    unittest.main()
