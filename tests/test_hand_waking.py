"""Points 1 to 4: a hand that sleeps, its waking, and letters that wake it."""

import unittest

from ringcrown.hand import Hand
from tests.hands import at_stage, beaten, first, state, woken

NUMBERS = (0, 1, 7, 10**30)


def two_asks(number):
    return [(1, "ask", number, 0, 1), (-1, "ask", number, 0, 1)]


class TestNewHand(unittest.TestCase):
    def test_number_is_what_was_handed_in(self):
        for number in NUMBERS:
            with self.subTest(number=number):
                self.assertEqual(Hand(number).number, number)
                self.assertEqual(Hand(number=number).number, number)

    def test_sleeps(self):
        self.assertIs(Hand(0).is_awake(), False)
        self.assertIs(Hand(7).is_awake(), False)

    def test_is_not_the_first(self):
        self.assertIs(Hand(7).is_first(), False)

    def test_has_no_stage(self):
        self.assertIsNone(Hand(0).stage())
        self.assertIsNone(Hand(7).stage())

    def test_knows_nothing(self):
        self.assertIsNone(Hand(0).knows())
        self.assertIsNone(Hand(7).knows())

    def test_asking_does_not_wake_it(self):
        hand = Hand(7)
        for _ in range(2):
            self.assertEqual(state(hand), (7, False, False, None, None))

    def test_hands_share_nothing(self):
        one, other = Hand(7), Hand(8)
        one.take((1, "ask", 7, 0, 1))
        self.assertEqual(state(other), (8, False, False, None, None))

    def test_methods_are_defined_in_the_class_itself(self):
        self.assertEqual(Hand.__module__, "ringcrown.hand")
        for name in ("wake", "take", "is_awake", "is_first", "stage", "knows"):
            with self.subTest(name=name):
                self.assertIn(name, vars(Hand))


class TestWaking(unittest.TestCase):
    def test_sends_two_asks_the_right_one_first(self):
        for number in NUMBERS:
            with self.subTest(number=number):
                self.assertEqual(Hand(number).wake(), two_asks(number))

    def test_sends_a_list_of_tuples_of_whole_numbers_and_words(self):
        sent = Hand(7).wake()
        self.assertIs(type(sent), list)
        for letter in sent:
            self.assertIs(type(letter), tuple)
            self.assertEqual([type(part) for part in letter], [int, str, int, int, int])

    def test_hand_is_awake_at_stage_nought(self):
        for number in NUMBERS:
            with self.subTest(number=number):
                hand = woken(number)
                self.assertIs(hand.is_awake(), True)
                self.assertIs(type(hand.stage()), int)
                self.assertEqual(state(hand), (number, True, False, 0, None))

    def test_second_waking_sends_and_changes_nothing(self):
        hand = woken(7)
        for _ in range(3):
            self.assertEqual(hand.wake(), [])
            self.assertEqual(state(hand), (7, True, False, 0, None))

    def test_second_waking_keeps_the_count_of_answers(self):
        hand = woken(7)
        hand.take((1, "answer", 7, 0, 0))
        self.assertEqual(hand.wake(), [])
        self.assertEqual(
            hand.take((-1, "answer", 7, 0, 0)),
            [(1, "ask", 7, 1, 2), (-1, "ask", 7, 1, 2)],
        )

    def test_second_waking_keeps_the_stage_and_its_steps(self):
        hand = at_stage(7, 3)
        self.assertEqual(hand.wake(), [])
        self.assertEqual(hand.stage(), 3)
        hand.take((1, "answer", 7, 3, 0))
        self.assertEqual(
            hand.take((-1, "answer", 7, 3, 0)),
            [(1, "ask", 7, 4, 16), (-1, "ask", 7, 4, 16)],
        )

    def test_second_waking_of_a_beaten_hand(self):
        hand = beaten(7)
        self.assertEqual(hand.wake(), [])
        hand.take((1, "answer", 7, 0, 0))
        self.assertEqual(hand.take((-1, "answer", 7, 0, 0)), [])
        self.assertEqual(hand.stage(), 0)

    def test_second_waking_of_the_first(self):
        hand = first(7)
        self.assertEqual(hand.wake(), [])
        self.assertEqual(state(hand), (7, True, True, 0, 7))

    def test_waking_a_hand_that_a_letter_woke(self):
        letters = ((1, "ask", 3, 0, 1), (1, "answer", 9, 0, 0), (1, "crown", 9, 0, 0))
        for letter in letters:
            with self.subTest(letter=letter):
                hand = Hand(7)
                hand.take(letter)
                before = state(hand)
                self.assertEqual(hand.wake(), [])
                self.assertEqual(state(hand), before)


class TestLetterToASleepingHand(unittest.TestCase):
    def check(self, letter, led_to, knows=None, is_first=False):
        hand = Hand(7)
        self.assertEqual(hand.take(letter), two_asks(7) + led_to)
        self.assertEqual(state(hand), (7, True, is_first, 0, knows))
        return hand

    def test_lesser_ask(self):
        self.check((1, "ask", 3, 0, 1), [])
        self.check((-1, "ask", 0, 2, 4), [])

    def test_greater_ask_with_one_step(self):
        self.check((1, "ask", 9, 0, 1), [(-1, "answer", 9, 0, 0)])
        self.check((-1, "ask", 9, 3, 1), [(1, "answer", 9, 3, 0)])

    def test_greater_ask_with_more_steps(self):
        self.check((1, "ask", 9, 2, 4), [(1, "ask", 9, 2, 3)])
        self.check((-1, "ask", 9, 2, 2), [(-1, "ask", 9, 2, 1)])

    def test_greater_ask_beats_it(self):
        hand = self.check((1, "ask", 9, 0, 1), [(-1, "answer", 9, 0, 0)])
        self.assertEqual(hand.take((1, "answer", 7, 0, 0)), [])
        self.assertEqual(hand.take((-1, "answer", 7, 0, 0)), [])
        self.assertEqual(hand.stage(), 0)

    def test_own_ask(self):
        self.check((-1, "ask", 7, 0, 1), [(1, "crown", 7, 0, 0)], knows=7, is_first=True)

    def test_answer_with_another_number(self):
        for letter in ((1, "answer", 9, 0, 0), (-1, "answer", 3, 2, 0)):
            with self.subTest(letter=letter):
                self.check(letter, [letter])

    def test_answer_with_its_own_number_is_counted(self):
        hand = self.check((1, "answer", 7, 0, 0), [])
        self.assertEqual(
            hand.take((-1, "answer", 7, 0, 0)),
            [(1, "ask", 7, 1, 2), (-1, "ask", 7, 1, 2)],
        )

    def test_crown_with_another_number(self):
        self.check((1, "crown", 9, 0, 0), [(1, "crown", 9, 0, 0)], knows=9)
        self.check((-1, "crown", 10**30, 0, 0), [(-1, "crown", 10**30, 0, 0)], knows=10**30)

    def test_crown_with_its_own_number(self):
        self.check((1, "crown", 7, 0, 0), [])

    def test_asks_are_sent_once(self):
        hand = Hand(7)
        hand.take((1, "ask", 3, 0, 1))
        self.assertEqual(hand.take((1, "ask", 3, 0, 1)), [])
        self.assertEqual(hand.take((1, "ask", 9, 0, 1)), [(-1, "answer", 9, 0, 0)])


if __name__ == "__main__":
    unittest.main()
