"""A hand that is its own neighbour on both sides, letter by letter."""

import unittest

from ringcrown.hand import Hand
from tests.hands import state

NUMBERS = (0, 7, 10**30)


def orders(hand_of, done=()):
    """Every order in which the letters under way can come, as rows of choices."""
    under_way = play(hand_of(), done)[1]
    if not under_way:
        return [done]
    found = []
    for choice in range(len(under_way)):
        found += orders(hand_of, (*done, choice))
    return found


def play(hand, choices):
    """Wake the hand, bring it the chosen letters; how many it sent, and what is under way."""
    under_way = hand.wake()
    sent = len(under_way)
    for choice in choices:
        led_to = hand.take(under_way.pop(choice))
        sent += len(led_to)
        under_way += led_to
    return sent, under_way


class TestHandThatMeetsItself(unittest.TestCase):
    def test_in_the_order_of_sending(self):
        for number in NUMBERS:
            with self.subTest(number=number):
                hand = Hand(number)
                right, left = hand.wake()
                self.assertEqual(state(hand), (number, True, False, 0, None))
                self.assertEqual(hand.take(right), [(1, "crown", number, 0, 0)])
                self.assertEqual(state(hand), (number, True, True, 0, number))
                self.assertEqual(hand.take(left), [])
                self.assertEqual(hand.take((1, "crown", number, 0, 0)), [])
                self.assertEqual(state(hand), (number, True, True, 0, number))

    def test_the_left_ask_first_and_the_crown_before_the_right_ask(self):
        hand = Hand(7)
        right, left = hand.wake()
        crown, = hand.take(left)
        self.assertEqual(crown, (1, "crown", 7, 0, 0))
        self.assertEqual(hand.take(crown), [])
        self.assertEqual(hand.take(right), [])
        self.assertEqual(state(hand), (7, True, True, 0, 7))

    def test_in_every_order(self):
        for number in NUMBERS:
            for choices in orders(lambda: Hand(number)):
                with self.subTest(number=number, choices=choices):
                    hand = Hand(number)
                    self.assertEqual(play(hand, choices), (3, []))
                    self.assertEqual(state(hand), (number, True, True, 0, number))


if __name__ == "__main__":
    unittest.main()
