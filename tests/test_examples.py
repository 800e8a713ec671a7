"""The session of the document's examples, and the flat form."""

import unittest

from asking import ask, masks_in_order
from halffactors.trials import answers


class Examples(unittest.TestCase):

    def test_session(self):
        session = [
            ([0, 4], [0]),
            ([1, 15, 0], [1]),
            ([11], [8]),
            ([5], [4]),
            ([4], [1, 15, 0]),
            ([6], [4, 0, 0, 0, 1]),
            ([7, 3], [2, 3, 0, 12, 0]),
            ([7, 7], [2, 8, 0, 7, 0]),
            ([8, 7], [8, 0]),
            ([9, 1, 2], [-33]),
            ([12, 0], [8, 0, 3, 5, 6, 9, 10, 12, 15]),
            ([10, 1], [1]),
            ([10, 3], [0]),
            ([15, 7], [8, 1, 1]),
            ([16, 1, 3], [2]),
            ([17, 5], [1]),
            ([19], [2, 3, 12]),
            ([20, 0, 8, 1, 2, 3, 4, 5, 6, 7, 8], [0, 9, 2]),
            ([20, 2, 8, 1, 2, 3, 4, 5, 6, 7, 8], [0, 1, 1]),
            ([22, 0, 4, 1, 2, 4, 8], [1]),
            ([22, 4, 3, 5, 6, 9, 4, 1, 2, 4, 8], [0]),
            ([23, 4, 1], [1, 15]),
            ([25, 1, 7], [0]),
            ([14, 1], [0]),
            ([11], [16]),
            ([1, 16, 0], [-22]),
        ]
        for until in range(1, len(session) + 1):
            with self.subTest(call=session[until - 1][0]):
                self.assertEqual(ask(*[call for call, answer in session[:until]]),
                                 [answer for call, answer in session[:until]])

    def test_flat_form(self):
        calls = [3, 0, 4, 1, 15, 0, 3, 6, 8, 7, 9, 1, 2, 11]
        told = [1, -11, 1, 0, 1, 1, 3, 1, 15, 0, 5, 4, 0, 0, 0, 1, 2, 8, 0, 1, -33, 1, 8]
        self.assertEqual(answers(calls), told)

    def test_flat_form_of_rows(self):
        calls = [0, 2, 1, 3, 1, 16, 0, 16, 1, 1, 20, 2, 2, 4, -5, 21, 2, 4, -5, 22, 0, 1, 1, 22, 1, 1, 0, 25, 0, 25, 1, 3,
                 18, 0, 19, 26]
        told = [1, 0, 1, 1, 1, 1, 1, 2, 3, 0, -9, 1, 7, 2, 0, -1, 2, 1, 9, 1, 1, 1, 1, 1, 1, 0, 1, 1, 2, 1, 1, 3, 2, 1,
                2, 4, 2, 1, 1, 2]
        self.assertEqual(answers(calls), told)

    def test_list_handed_in_is_unchanged(self):
        calls = [0, 5, 1, 7, 1, 1, 28, 0, 2, 0, 7, 3, 12, 4, 1, 7, 9, 16, 2, 1, 2, 16, 2, 3, 3, 14, 31, 24, 2, 16, 1, 1,
                 20, 1, 8, 8, 7, 6, 5, 4, 3, 2, 1, 21, 8, 8, 7, 6, 5, 4, 3, 2, 1, 22, 2, 9, 3, 3, 4, 2, 1, 25, 2, 28, 7]
        handed = list(calls)
        answers(handed)
        self.assertEqual(handed, calls)

    def test_nothing_is_kept_between_requests(self):
        self.assertEqual(answers([0, 3, 1, 7, 0, 3]), [1, 0, 1, 1, 3, 1, 7, 0])
        self.assertEqual(answers([3]), [1, -11])
        self.assertEqual(answers([0, 3, 3]), [1, 0, 1, 0])
        self.assertEqual(answers([0, 3, 16, 2, 1, 2, 26]), [1, 0, 1, 4, 4, 3, 0, 2, 8])
        self.assertEqual(answers([23, 4, 1, 0, 3, 26]), [1, -11, 1, 0, 4, 3, 0, 0, 8])

    def test_answers_of_two_requests_are_two_lists(self):
        first = answers([0, 3, 12, 0])
        first.append(5)
        self.assertEqual(answers([0, 3, 12, 0]), [1, 0, 9, 8, 0, 1, 2, 3, 4, 5, 6, 7])

    def test_most_calls(self):
        calls = [0, 8] + [12, 0] * 199
        self.assertEqual(answers(calls), [1, 0] + ([33, 32] + list(range(32))) * 199)

    def test_longest_request(self):
        calls = [0, 8] + ([21, 256] + [-1000000] * 256) * 116
        self.assertLessEqual(len(calls), 30000)
        one = [256, 0, -1000000, 1] + [number for mask in masks_in_order(range(1, 256)) for number in (mask, 0, 1)]
        self.assertEqual(answers(calls), [1, 0] + ([769] + one) * 116)


if __name__ == "__main__":
    unittest.main()
