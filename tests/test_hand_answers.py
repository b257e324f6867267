"""Point 6: what an answer leads to."""

import unittest

from tests.hands import at_stage, beaten, first, state, woken

WAYS = (1, -1)
BIG = 10**30


class TestAnswerWithAnotherNumber(unittest.TestCase):
    def test_is_sent_on_as_it_is(self):
        for way in WAYS:
            for number in (0, 6, 8, BIG):
                for stage in (0, 3):
                    letter = (way, "answer", number, stage, 0)
                    with self.subTest(letter=letter):
                        hand = woken(7)
                        self.assertEqual(hand.take(letter), [letter])
                        self.assertEqual(state(hand), (7, True, False, 0, None))

    def test_is_sent_on_by_each_hand(self):
        letter = (-1, "answer", 9, 1, 0)
        for hand in (woken(7), at_stage(7, 2), beaten(7), first(7)):
            before = state(hand)
            self.assertEqual(hand.take(letter), [letter])
            self.assertEqual(state(hand), before)

    def test_is_not_counted(self):
        hand = woken(7)
        hand.take((1, "answer", 8, 0, 0))
        hand.take((-1, "answer", 6, 0, 0))
        self.assertEqual(hand.take((1, "answer", 7, 0, 0)), [])
        self.assertEqual(hand.stage(), 0)
        hand.take((1, "answer", 8, 0, 0))
        self.assertEqual(len(hand.take((-1, "answer", 7, 0, 0))), 2)
        self.assertEqual(hand.stage(), 1)

    def test_a_greater_one_does_not_beat(self):
        hand = woken(7)
        hand.take((1, "answer", 8, 0, 0))
        hand.take((1, "answer", 7, 0, 0))
        hand.take((-1, "answer", 7, 0, 0))
        self.assertEqual(hand.stage(), 1)


class TestAnswerWithItsOwnNumber(unittest.TestCase):
    def test_first_one_leads_to_nothing(self):
        for way in WAYS:
            for stage in (0, 1, 2, 5):
                with self.subTest(way=way, stage=stage):
                    hand = at_stage(7, stage)
                    self.assertEqual(hand.take((way, "answer", 7, stage, 0)), [])
                    self.assertEqual(state(hand), (7, True, False, stage, None))

    def test_second_one_leads_to_the_next_stage(self):
        for way in WAYS:
            with self.subTest(way=way):
                hand = woken(7)
                hand.take((way, "answer", 7, 0, 0))
                self.assertEqual(
                    hand.take((-way, "answer", 7, 0, 0)),
                    [(1, "ask", 7, 1, 2), (-1, "ask", 7, 1, 2)],
                )
                self.assertEqual(state(hand), (7, True, False, 1, None))

    def test_steps_of_the_stages(self):
        hand = woken(7)
        for stage, steps in ((1, 2), (2, 4), (3, 8), (4, 16), (5, 32), (6, 64), (7, 128)):
            with self.subTest(stage=stage):
                self.assertEqual(hand.take((1, "answer", 7, stage - 1, 0)), [])
                self.assertEqual(
                    hand.take((-1, "answer", 7, stage - 1, 0)),
                    [(1, "ask", 7, stage, steps), (-1, "ask", 7, stage, steps)],
                )
                self.assertEqual(hand.stage(), stage)

    def test_far_stages(self):
        hand = at_stage(7, 99)
        hand.take((-1, "answer", 7, 99, 0))
        self.assertEqual(
            hand.take((1, "answer", 7, 99, 0)),
            [(1, "ask", 7, 100, 2**100), (-1, "ask", 7, 100, 2**100)],
        )

    def test_numbers_of_any_size(self):
        for number in (0, BIG):
            with self.subTest(number=number):
                hand = woken(number)
                self.assertEqual(hand.take((1, "answer", number, 0, 0)), [])
                self.assertEqual(
                    hand.take((-1, "answer", number, 0, 0)),
                    [(1, "ask", number, 1, 2), (-1, "ask", number, 1, 2)],
                )

    def test_counts_from_nought_again_at_each_stage(self):
        hand = at_stage(7, 1)
        self.assertEqual(hand.take((1, "answer", 7, 1, 0)), [])
        self.assertEqual(hand.stage(), 1)
        self.assertEqual(len(hand.take((-1, "answer", 7, 1, 0))), 2)
        self.assertEqual(hand.take((-1, "answer", 7, 2, 0)), [])
        self.assertEqual(hand.stage(), 2)

    def test_an_answer_of_another_stage_is_not_counted(self):
        hand = at_stage(7, 1)
        for stage in (0, 2):
            self.assertEqual(hand.take((1, "answer", 7, stage, 0)), [])
        self.assertEqual(hand.take((1, "answer", 7, 1, 0)), [])
        self.assertEqual(hand.stage(), 1)
        self.assertEqual(len(hand.take((-1, "answer", 7, 1, 0))), 2)
        self.assertEqual(hand.stage(), 2)

    def test_letters_between_do_not_disturb_the_count(self):
        hand = woken(7)
        hand.take((1, "answer", 7, 0, 0))
        hand.take((1, "ask", 6, 0, 1))
        hand.take((1, "crown", 9, 0, 0))
        hand.take((1, "answer", 8, 0, 0))
        self.assertEqual(
            hand.take((-1, "answer", 7, 0, 0)),
            [(1, "ask", 7, 1, 2), (-1, "ask", 7, 1, 2)],
        )

    def test_second_one_to_a_beaten_hand_leads_to_nothing(self):
        hand = beaten(7)
        for way in WAYS:
            self.assertEqual(hand.take((way, "answer", 7, 0, 0)), [])
            self.assertEqual(state(hand), (7, True, False, 0, None))

    def test_second_one_to_a_hand_that_is_beaten_at_a_later_stage(self):
        for stage in (1, 2, 5):
            with self.subTest(stage=stage):
                hand = at_stage(7, stage)
                hand.take((1, "ask", 8, stage, 1))
                for way in WAYS:
                    self.assertEqual(hand.take((way, "answer", 7, stage, 0)), [])
                    self.assertEqual(hand.stage(), stage)


if __name__ == "__main__":
    unittest.main()
