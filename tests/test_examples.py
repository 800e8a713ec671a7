"""The session of the document's examples, as far as the calls 0 to 13 go, and the flat form."""

import unittest

from asking import ask
from halffactors.trials import answers


class Examples(unittest.TestCase):

    def test_session(self):
        session = [
            ([0, 4], [0]),
            ([1, 15, 0], [1]),
            ([11], [8]),
            ([5], [4]),
            ([4], [1, 15, 0]),
            ([6], [4, 0, 0, 0, 1]),
            ([7, 3], [2, 3, 0, 12, 0]),
            ([7, 7], [2, 8, 0, 7, 0]),
            ([8, 7], [8, 0]),
            ([9, 1, 2], [-33]),
            ([12, 0], [8, 0, 3, 5, 6, 9, 10, 12, 15]),
            ([10, 1], [1]),
            ([10, 3], [0]),
            ([1, 16, 0], [-22]),
        ]
        self.assertEqual(ask(*[call for call, answer in session]), [answer for call, answer in session])

    def test_flat_form(self):
        calls = [3, 0, 4, 1, 15, 0, 3, 6, 8, 7, 9, 1, 2, 11]
        told = [1, -11, 1, 0, 1, 1, 3, 1, 15, 0, 5, 4, 0, 0, 0, 1, 2, 8, 0, 1, -33, 1, 8]
        self.assertEqual(answers(calls), told)

    def test_list_handed_in_is_unchanged(self):
        calls = [0, 5, 1, 7, 1, 1, 28, 0, 2, 0, 7, 3, 12, 4, 1, 7, 9]
        handed = list(calls)
        answers(handed)
        self.assertEqual(handed, calls)

    def test_nothing_is_kept_between_requests(self):
        self.assertEqual(answers([0, 3, 1, 7, 0, 3]), [1, 0, 1, 1, 3, 1, 7, 0])
        self.assertEqual(answers([3]), [1, -11])
        self.assertEqual(answers([0, 3, 3]), [1, 0, 1, 0])

    def test_answers_of_two_requests_are_two_lists(self):
        first = answers([0, 3, 12, 0])
        first.append(5)
        self.assertEqual(answers([0, 3, 12, 0]), [1, 0, 9, 8, 0, 1, 2, 3, 4, 5, 6, 7])

    def test_most_calls(self):
        calls = [0, 8] + [12, 0] * 199
        self.assertEqual(answers(calls), [1, 0] + ([33, 32] + list(range(32))) * 199)


if __name__ == "__main__":
    unittest.main()
