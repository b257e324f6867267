"""Point 12's bound, and BadCount of point 13."""

import unittest

from ringcrown.bounds import bound
from ringcrown.errors import BadCount
from ringcrown.ring import MOST_HANDS
from tests.refusals import assert_refuses
from tests.rings import OTHER_KINDS, letters_at_most

# Worked out by hand from the words of point 12.
WORKED_OUT = (
    (1, 7),
    (2, 14),
    (3, 21 + 8),
    (4, 28 + 8 * 2),
    (5, 35 + 8 * 2 + 16),
    (6, 42 + 8 * 3 + 16 * 2),
    (8, 56 + 8 * 4 + 16 * 2),
    (9, 63 + 8 * 4 + 16 * 3 + 32),
    (33, 231 + 8 * 16 + 16 * 11 + 32 * 6 + 64 * 3 + 128),
    (64, 448 + 8 * 32 + 16 * 21 + 32 * 12 + 64 * 7 + 128 * 3),
)


class TestBound(unittest.TestCase):
    def test_counts_of_the_issue(self):
        self.assertEqual([bound(1), bound(2), bound(3), bound(5)], [7, 14, 29, 67])

    def test_counts_worked_out_by_hand(self):
        for many, letters in WORKED_OUT:
            with self.subTest(many=many):
                self.assertEqual(bound(many), letters)
                self.assertEqual(letters_at_most(many), letters)

    def test_all_counts_by_the_words(self):
        for many in range(1, MOST_HANDS + 1):
            with self.subTest(many=many):
                self.assertEqual(bound(many), letters_at_most(many))
                self.assertIs(type(bound(many)), int)

    def test_tells_the_same_again(self):
        told = [bound(many) for many in range(1, 65)]
        self.assertEqual([bound(many) for many in range(1, 65)], told)


class TestBadCount(unittest.TestCase):
    def test_whole_numbers_that_are_no_count(self):
        for many in (0, -1, -2, -64, -(10**30), 65, 66, 128, 10**30, 10**5000, -(10**5000)):
            with self.subTest(below=many < 1):
                assert_refuses(self, BadCount, bound, many)

    def test_other_kinds(self):
        for many in (*OTHER_KINDS, 5.0, "5", [5], {5: 5}, (5,)):
            with self.subTest(kind=type(many)):
                assert_refuses(self, BadCount, bound, many)

    def test_a_refusal_leaves_what_was_handed_in(self):
        row, table = [1, 2], {1: 2}
        assert_refuses(self, BadCount, bound, row)
        assert_refuses(self, BadCount, bound, table)
        self.assertEqual((row, table), ([1, 2], {1: 2}))

    def test_the_edges_that_are_no_refusal(self):
        self.assertEqual((bound(1), bound(64)), (7, 2256))


if __name__ == "__main__":
    unittest.main()
