"""The calls that ask after runs: run_count, runs, is_run; and the document's requirements 1 and 2."""

import unittest

from asking import (ADD_GENERATOR, ALIASES, ARE_ALIASED, CREATE, DEFINING, IS_RUN, LARGEST, RUN_COUNT, RUNS, ask,
                    ask_design, runs_of, sign_of, some_designs)


def told_runs(factors, words):
    """All runs that the program tells, page by page."""
    found = []
    for page in ask_design(factors, words, [[RUNS, start] for start in range(0, 257, 32) if start <= 2 ** (
            factors - len(words))]):
        found += page[1:]
    return found


class RunCount(unittest.TestCase):

    def test_many_designs(self):
        for factors, words in some_designs():
            with self.subTest(factors=factors, words=words):
                self.assertEqual(ask_design(factors, words, [[RUN_COUNT]]), [[2 ** (factors - len(words))]])


class Runs(unittest.TestCase):

    def test_signs(self):
        self.assertEqual(ask([CREATE, 3], [ADD_GENERATOR, 7, 1], [RUNS, 0])[-1], [4, 0, 3, 5, 6])
        self.assertEqual(ask([CREATE, 3], [ADD_GENERATOR, 7, 0], [RUNS, 0])[-1], [4, 1, 2, 4, 7])
        self.assertEqual(ask([CREATE, 3], [ADD_GENERATOR, 3, 1], [ADD_GENERATOR, 4, 1], [RUNS, 0])[-1], [2, 1, 2])

    def test_in_increasing_order_as_numbers(self):
        self.assertEqual(ask([CREATE, 4], [ADD_GENERATOR, 8, 0], [RUNS, 0])[-1], [8, 8, 9, 10, 11, 12, 13, 14, 15])
        self.assertEqual(ask([CREATE, 4], [RUNS, 0])[-1], [16] + list(range(16)))

    def test_start(self):
        self.assertEqual(ask([CREATE, 4], [ADD_GENERATOR, 15, 0], [RUNS, 1], [RUNS, 6], [RUNS, 7], [RUNS, 8],
                             [RUNS, 9])[2:],
                         [[7, 3, 5, 6, 9, 10, 12, 15], [2, 12, 15], [1, 15], [0], [-2]])

    def test_at_most_32(self):
        self.assertEqual(ask([CREATE, 5], [RUNS, 0], [RUNS, 1])[1:], [[32] + list(range(32)),
                                                                      [31] + list(range(1, 32))])
        self.assertEqual(ask([CREATE, 6], [RUNS, 0], [RUNS, 1], [RUNS, 31], [RUNS, 32], [RUNS, 33], [RUNS, 63],
                             [RUNS, 64], [RUNS, 65])[1:],
                         [[32] + list(range(32)), [32] + list(range(1, 33)), [32] + list(range(31, 63)),
                          [32] + list(range(32, 64)), [31] + list(range(33, 64)), [1, 63], [0], [-2]])
        self.assertEqual(ask([CREATE, 8], [RUNS, 100], [RUNS, 224], [RUNS, 240], [RUNS, 256], [RUNS, 257])[1:],
                         [[32] + list(range(100, 132)), [32] + list(range(224, 256)), [16] + list(range(240, 256)),
                          [0], [-2]])

    def test_one_run(self):
        self.assertEqual(ask([CREATE, 2], [ADD_GENERATOR, 1, 0], [ADD_GENERATOR, 2, 1], [RUNS, 0], [RUNS, 1],
                             [RUNS, 2])[3:], [[1, 1], [0], [-2]])

    def test_start_out_of_range(self):
        for start in (17, 32, 256, LARGEST):
            with self.subTest(start=start):
                self.assertEqual(ask([CREATE, 4], [RUNS, start])[-1], [-2])

    def test_many_designs(self):
        for factors, words in some_designs():
            with self.subTest(factors=factors, words=words):
                expected = runs_of(factors, words)
                starts = range(0, len(expected) + 2, 1 if factors < 6 else 11)
                told = ask_design(factors, words, [[RUNS, start] for start in starts])
                for start, answer in zip(starts, told):
                    part = expected[start:start + 32]
                    self.assertEqual(answer, [-2] if start > len(expected) else [len(part)] + part)


class IsRun(unittest.TestCase):

    def test_no_generators(self):
        self.assertEqual(ask([CREATE, 2], *[[IS_RUN, run] for run in range(5)])[1:], [[1], [1], [1], [1], [-22]])

    def test_every_generator_has_its_sign(self):
        told = ask([CREATE, 3], [ADD_GENERATOR, 3, 1], [ADD_GENERATOR, 4, 1], *[[IS_RUN, run] for run in range(8)])
        self.assertEqual(told[3:], [[0], [1], [1], [0], [0], [0], [0], [0]])

    def test_out_of_range(self):
        for run in (16, 17, 256, LARGEST):
            with self.subTest(run=run):
                self.assertEqual(ask([CREATE, 4], [ADD_GENERATOR, 15, 0], [IS_RUN, run], [IS_RUN, 15])[2:],
                                 [[-22], [1]])

    def test_many_designs(self):
        for factors, words in some_designs():
            with self.subTest(factors=factors, words=words):
                expected = runs_of(factors, words)
                told = ask_design(factors, words, [[IS_RUN, run] for run in range(2 ** factors)])
                self.assertEqual(told, [[1 if run in expected else 0] for run in range(2 ** factors)])


class Requirements(unittest.TestCase):

    def test_1_runs_and_words(self):
        for factors, words in some_designs():
            with self.subTest(factors=factors, words=words):
                found = told_runs(factors, words)
                self.assertEqual(len(found), 2 ** (factors - len(words)))
                told = ask_design(factors, words, [[DEFINING], [RUN_COUNT], [ALIASES, 0], [ALIASES, 3]])
                self.assertEqual(told[1], [len(found)])
                self.assertEqual((told[2][0], told[3][0]), (2 ** len(words), 2 ** len(words)))
                for mask, sign in zip(told[0][1::2], told[0][2::2]):
                    self.assertEqual({sign_of(mask, run) for run in found}, {sign})

    def test_2_levels_of_aliases_and_others(self):
        for factors, words in some_designs():
            if factors > 6:
                continue
            with self.subTest(factors=factors, words=words):
                found = told_runs(factors, words)
                for first in (0, 1, 2 ** factors - 1):
                    told = ask_design(factors, words, [[ARE_ALIASED, first, second] for second in range(2 ** factors)])
                    for second, answer in enumerate(told):
                        differing = sum(sign_of(first, run) != sign_of(second, run) for run in found)
                        halves = {0: 0, 1: 2, -33: 1}[answer[0]]
                        self.assertEqual(differing * 2, halves * len(found))


if __name__ == "__main__":
    unittest.main()
