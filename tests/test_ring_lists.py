"""Point 1 for a ring: lists that are told, the list handed in, and rings side by side."""

import unittest

from ringcrown.ring import Ring
from tests.rings import told, woken

SPOILS = (
    list.clear,
    list.reverse,
    lambda row: row.append((0, 1, "ask", 0, 0, 1)),
    lambda row: row.insert(0, (0, 1, "crown", 0, 0, 0)),
    lambda row: row.extend(row),
)


def swap_the_first(row):
    if row:
        row[0] = (0, 1, "ask", 0, 0, 1)


class TestToldLists(unittest.TestCase):
    def test_changing_a_told_list_changes_nothing(self):
        for spoil in (*SPOILS, swap_the_first):
            with self.subTest(spoil=spoil):
                ring, kept = Ring([5, 1, 4, 2]), Ring([5, 1, 4, 2])
                spoil(ring.mails())
                self.assertEqual(told(ring, 4), told(kept, 4))
                self.assertEqual(ring.wake(2), kept.wake(2))
                while kept.mails():
                    spoil(ring.mails())
                    self.assertEqual(told(ring, 4), told(kept, 4))
                    self.assertEqual(ring.bring(0), kept.bring(0))
                spoil(ring.mails())
                self.assertEqual(told(ring, 4), told(kept, 4))

    def test_changing_a_told_list_does_not_change_what_rest_brings(self):
        for spoil in (*SPOILS, swap_the_first):
            with self.subTest(spoil=spoil):
                ring = woken([3, 5], 1)
                row = ring.mails()
                spoil(row)
                self.assertEqual(ring.rest(), 12)

    def test_a_told_list_is_not_changed_later(self):
        ring = Ring([5, 1, 4, 2])
        rows, copies = [], []

        def keep():
            rows.append(ring.mails())
            copies.append(tuple(rows[-1]))
            self.assertEqual([tuple(row) for row in rows], copies)

        keep()
        for place in (1, 3):
            ring.wake(place)
            keep()
        for _ in range(9):
            ring.bring(len(ring.mails()) // 2)
            keep()
        ring.rest()
        keep()

    def test_no_list_is_told_twice(self):
        for ring in (Ring([3, 5]), woken([3, 5], 0)):
            self.assertIsNot(ring.mails(), ring.mails())

    def test_a_told_list_holds_tuples(self):
        ring = woken([5, 1, 4, 2], 0, 2)
        while ring.mails():
            row = ring.mails()
            self.assertIs(type(row), list)
            self.assertEqual({type(mail) for mail in row}, {tuple})
            self.assertIs(type(ring.bring(0)), tuple)


class TestListHandedIn(unittest.TestCase):
    def test_changing_it_afterwards_changes_nothing(self):
        for spoil in (list.clear, list.reverse, lambda row: row.append(99), self.zero):
            for woken_before in (False, True):
                with self.subTest(spoil=spoil, woken_before=woken_before):
                    numbers = [5, 1, 4, 2]
                    ring, kept = Ring(numbers), Ring([5, 1, 4, 2])
                    if woken_before:
                        ring.wake(1)
                        kept.wake(1)
                    spoil(numbers)
                    self.assertEqual(told(ring, 4), told(kept, 4))
                    for place in range(4):
                        self.assertEqual(ring.wake(place), kept.wake(place))
                        self.assertEqual(told(ring, 4), told(kept, 4))
                    self.assertEqual(ring.rest(), kept.rest())
                    self.assertEqual(told(ring, 4), told(kept, 4))

    def zero(self, numbers):
        for place in range(len(numbers)):
            numbers[place] = 0

    def test_is_not_changed_by_anything_done(self):
        numbers = [5, 1, 4, 2]
        ring = Ring(numbers)
        ring.wake(0)
        self.assertEqual(numbers, [5, 1, 4, 2])
        ring.bring(1)
        self.assertEqual(numbers, [5, 1, 4, 2])
        ring.mails().clear()
        ring.rest()
        self.assertEqual(numbers, [5, 1, 4, 2])


class TestTwoRings(unittest.TestCase):
    def test_what_is_done_to_one_changes_nothing_in_the_other(self):
        for numbers in ([7], [3, 5], [5, 1, 4, 2]):
            many = len(numbers)
            for waited in range(0, 12, 3):
                with self.subTest(many=many, waited=waited):
                    one, other = Ring(numbers), Ring(numbers)
                    other.wake(0)
                    for _ in range(min(waited, len(other.mails()))):
                        other.bring(0)
                    before = told(other, many)
                    one.wake(many - 1)
                    self.assertEqual(told(other, many), before)
                    one.bring(1)
                    self.assertEqual(told(other, many), before)
                    one.rest()
                    self.assertEqual(told(other, many), before)

    def test_both_come_to_their_end(self):
        one, other = woken([3, 5], 1), woken([9, 2, 4], 1)
        alone = woken([9, 2, 4], 1)
        while one.mails():
            one.bring(0)
            self.assertEqual(other.bring(0), alone.bring(0))
            self.assertEqual(told(other, 3), told(alone, 3))
        self.assertEqual(one.sent(), 12)
        self.assertEqual(other.rest(), alone.rest())
        self.assertEqual(told(other, 3), told(alone, 3))
        self.assertEqual([one.knows(0), other.knows(0)], [5, 9])


if __name__ == "__main__":
    unittest.main()
