"""Point 7: what a crown leads to."""

import unittest

from tests.hands import at_stage, beaten, first, state, woken

WAYS = (1, -1)
BIG = 10**30


class TestCrownWithAnotherNumber(unittest.TestCase):
    def check(self, hand, letter):
        number, is_awake, is_first, stage, _ = state(hand)
        self.assertEqual(hand.take(letter), [letter])
        self.assertEqual(state(hand), (number, is_awake, is_first, stage, letter[2]))

    def test_to_a_hand_that_is_neither_first_nor_beaten(self):
        for way in WAYS:
            for number in (8, BIG):
                with self.subTest(way=way, number=number):
                    hand = woken(7)
                    self.assertIsNone(hand.knows())
                    self.check(hand, (way, "crown", number, 0, 0))

    def test_to_a_hand_at_a_later_stage(self):
        self.check(at_stage(7, 3), (1, "crown", 8, 0, 0))

    def test_to_a_beaten_hand(self):
        for way in WAYS:
            with self.subTest(way=way):
                hand = beaten(7)
                self.assertIsNone(hand.knows())
                self.check(hand, (way, "crown", 8, 0, 0))

    def test_to_the_first(self):
        for way in WAYS:
            with self.subTest(way=way):
                hand = first(7)
                self.assertEqual(hand.knows(), 7)
                self.check(hand, (way, "crown", 8, 0, 0))

    def test_to_a_hand_of_number_nought(self):
        self.check(woken(0), (1, "crown", BIG, 0, 0))

    def test_a_lesser_number_is_known_too(self):
        # The point says "another number", and 0 is a number like each other one.
        self.check(woken(7), (1, "crown", 0, 0, 0))

    def test_is_sent_on_each_time(self):
        hand = woken(7)
        for _ in range(2):
            self.assertEqual(hand.take((1, "crown", 8, 0, 0)), [(1, "crown", 8, 0, 0)])
            self.assertEqual(hand.knows(), 8)

    def test_does_not_beat(self):
        hand = woken(7)
        hand.take((1, "crown", 8, 0, 0))
        hand.take((1, "answer", 7, 0, 0))
        self.assertEqual(len(hand.take((-1, "answer", 7, 0, 0))), 2)
        self.assertEqual(hand.stage(), 1)

    def test_what_is_known_outlasts_other_letters(self):
        hand = woken(7)
        hand.take((1, "crown", 8, 0, 0))
        hand.take((1, "ask", 3, 0, 1))
        hand.take((1, "ask", 8, 0, 1))
        hand.take((1, "answer", 7, 0, 0))
        hand.take((-1, "answer", 3, 0, 0))
        self.assertEqual(hand.knows(), 8)


class TestCrownWithItsOwnNumber(unittest.TestCase):
    def test_leads_to_nothing(self):
        for hand in (woken(7), at_stage(7, 2), beaten(7), first(7)):
            for way in WAYS:
                before = state(hand)
                self.assertEqual(hand.take((way, "crown", 7, 0, 0)), [])
                self.assertEqual(state(hand), before)

    def test_numbers_of_any_size(self):
        for number in (0, BIG):
            with self.subTest(number=number):
                self.assertEqual(woken(number).take((1, "crown", number, 0, 0)), [])
                self.assertEqual(first(number).take((1, "crown", number, 0, 0)), [])


if __name__ == "__main__":
    unittest.main()
