"""Point 1: what is told is the asker's own, and what is handed in is not changed."""

import unittest

from ringcrown.hand import Hand
from tests.hands import at_stage, beaten, first, state, woken

# One letter for each way through points 5 to 7, for a hand of number 7.
LETTERS = (
    (1, "ask", 3, 0, 1),
    (1, "ask", 7, 0, 1),
    (1, "ask", 9, 0, 1),
    (-1, "ask", 9, 2, 4),
    (1, "answer", 9, 0, 0),
    (1, "answer", 7, 0, 0),
    (1, "crown", 9, 0, 0),
    (1, "crown", 7, 0, 0),
)


def hands():
    return [Hand(7), woken(7), at_stage(7, 2), beaten(7), first(7)]


class TestToldLists(unittest.TestCase):
    def test_changing_a_told_list_changes_nothing_that_is_told_later(self):
        for spoil in (list.clear, lambda told: told.append((1, "ask", 0, 0, 0))):
            spoilt, kept = Hand(7), Hand(7)
            spoil(spoilt.wake())
            kept.wake()
            for letter in LETTERS * 2:
                with self.subTest(letter=letter):
                    self.assertEqual(spoilt.wake(), [])
                    spoil(spoilt.wake())
                    told = spoilt.take(letter)
                    self.assertEqual(told, kept.take(letter))
                    self.assertEqual(state(spoilt), state(kept))
                    spoil(told)

    def test_a_told_list_is_not_changed_later(self):
        hand = Hand(7)
        told = [hand.wake(), hand.wake()]
        copies = [list(row) for row in told]
        for letter in LETTERS * 2:
            told.append(hand.take(letter))
            copies.append(list(told[-1]))
            self.assertEqual(told, copies)
        told.append(hand.wake())
        copies.append([])
        self.assertEqual(told, copies)

    def test_no_list_is_told_twice(self):
        hand = Hand(7)
        told = [hand.wake(), hand.wake(), hand.wake()]
        for letter in LETTERS * 2:
            told.append(hand.take(letter))
        self.assertEqual(len({id(row) for row in told}), len(told))

    def test_hands_tell_lists_of_their_own(self):
        one, other = woken(7), woken(7)
        one.wake().append((1, "ask", 0, 0, 0))
        one.take((1, "crown", 7, 0, 0)).append((1, "ask", 0, 0, 0))
        self.assertEqual(other.wake(), [])
        self.assertEqual(other.take((1, "crown", 7, 0, 0)), [])

    def test_each_letter_leads_to_a_list_of_tuples(self):
        for letter in LETTERS:
            for hand in hands():
                with self.subTest(letter=letter, hand=state(hand)):
                    told = hand.take(letter)
                    self.assertIs(type(told), list)
                    self.assertTrue(all(type(sent) is tuple for sent in told))


class TestHandedIn(unittest.TestCase):
    def test_the_tuple_is_not_changed(self):
        for letter in LETTERS:
            for hand in hands():
                with self.subTest(letter=letter, hand=state(hand)):
                    handed_in = tuple(letter)
                    hand.take(handed_in)
                    self.assertIs(type(handed_in), tuple)
                    self.assertEqual(handed_in, letter)

    def test_the_number_is_not_changed_by_anything_done(self):
        for hand in hands():
            for letter in LETTERS * 2:
                hand.take(letter)
                self.assertEqual(hand.number, 7)


if __name__ == "__main__":
    unittest.main()
