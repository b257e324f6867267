"""Point 5: what an ask leads to."""

import unittest

from tests.hands import at_stage, beaten, first, state, woken

WAYS = (1, -1)
BIG = 10**30


class TestLesserAsk(unittest.TestCase):
    def test_leads_to_nothing(self):
        for way in WAYS:
            for number in (0, 6):
                for steps in (1, 2, 10**9):
                    with self.subTest(way=way, number=number, steps=steps):
                        hand = woken(7)
                        self.assertEqual(hand.take((way, "ask", number, 1, steps)), [])
                        self.assertEqual(state(hand), (7, True, False, 0, None))

    def test_does_not_beat(self):
        hand = woken(7)
        hand.take((1, "ask", 6, 0, 1))
        hand.take((1, "answer", 7, 0, 0))
        hand.take((-1, "answer", 7, 0, 0))
        self.assertEqual(hand.stage(), 1)

    def test_numbers_of_any_size(self):
        self.assertEqual(woken(BIG).take((1, "ask", BIG - 1, 0, 2)), [])
        self.assertEqual(woken(1).take((1, "ask", 0, 0, 2)), [])

    def test_numbers_are_compared_as_numbers(self):
        self.assertEqual(woken(10).take((1, "ask", 9, 0, 2)), [])
        self.assertEqual(woken(9).take((1, "ask", 10, 0, 2)), [(1, "ask", 10, 0, 1)])

    def test_to_a_beaten_hand(self):
        hand = beaten(7)
        self.assertEqual(hand.take((1, "ask", 6, 0, 2)), [])
        hand.take((1, "answer", 7, 0, 0))
        self.assertEqual(hand.take((-1, "answer", 7, 0, 0)), [])

    def test_to_the_first(self):
        hand = first(7)
        self.assertEqual(hand.take((1, "ask", 6, 0, 2)), [])
        self.assertEqual(state(hand), (7, True, True, 0, 7))


class TestGreaterAsk(unittest.TestCase):
    def test_one_step_leads_to_an_answer_the_other_way(self):
        for way in WAYS:
            for stage in (0, 1, 5):
                with self.subTest(way=way, stage=stage):
                    self.assertEqual(
                        woken(7).take((way, "ask", 8, stage, 1)),
                        [(-way, "answer", 8, stage, 0)],
                    )

    def test_more_steps_send_it_on_the_same_way(self):
        for way in WAYS:
            for steps in (2, 3, 4, 64, 10**9):
                with self.subTest(way=way, steps=steps):
                    self.assertEqual(
                        woken(7).take((way, "ask", 8, 3, steps)),
                        [(way, "ask", 8, 3, steps - 1)],
                    )

    def test_numbers_of_any_size(self):
        self.assertEqual(woken(0).take((1, "ask", 1, 0, 1)), [(-1, "answer", 1, 0, 0)])
        self.assertEqual(woken(0).take((-1, "ask", BIG, 0, 1)), [(1, "answer", BIG, 0, 0)])
        self.assertEqual(
            woken(BIG).take((1, "ask", BIG + 1, 2, 4)), [(1, "ask", BIG + 1, 2, 3)]
        )

    def test_changes_neither_stage_nor_what_is_known(self):
        for steps in (1, 2):
            hand = woken(7)
            hand.take((1, "ask", 8, 4, steps))
            self.assertEqual(state(hand), (7, True, False, 0, None))

    def test_keeps_stage_of_a_hand_beyond_nought(self):
        hand = at_stage(7, 2)
        hand.take((1, "ask", 8, 0, 1))
        self.assertEqual(state(hand), (7, True, False, 2, None))


class TestBeatenForGood(unittest.TestCase):
    def test_before_the_answers(self):
        for steps in (1, 2):
            for way in WAYS:
                with self.subTest(steps=steps, way=way):
                    hand = woken(7)
                    hand.take((way, "ask", 8, 0, steps))
                    self.assertEqual(hand.take((1, "answer", 7, 0, 0)), [])
                    self.assertEqual(hand.take((-1, "answer", 7, 0, 0)), [])
                    self.assertEqual(hand.stage(), 0)

    def test_between_the_answers(self):
        for steps in (1, 2):
            for way in WAYS:
                with self.subTest(steps=steps, way=way):
                    hand = woken(7)
                    hand.take((1, "answer", 7, 0, 0))
                    hand.take((way, "ask", 8, 0, steps))
                    self.assertEqual(hand.take((-1, "answer", 7, 0, 0)), [])
                    self.assertEqual(hand.stage(), 0)

    def test_after_the_answers(self):
        for steps in (1, 2):
            with self.subTest(steps=steps):
                hand = at_stage(7, 1)
                hand.take((1, "ask", 8, 1, steps))
                self.assertEqual(hand.stage(), 1)
                self.assertEqual(hand.take((1, "answer", 7, 1, 0)), [])
                self.assertEqual(hand.take((-1, "answer", 7, 1, 0)), [])
                self.assertEqual(hand.stage(), 1)

    def test_between_the_answers_of_a_later_stage(self):
        hand = at_stage(7, 3)
        hand.take((1, "answer", 7, 3, 0))
        hand.take((-1, "ask", 8, 2, 4))
        self.assertEqual(hand.take((-1, "answer", 7, 3, 0)), [])
        self.assertEqual(hand.stage(), 3)

    def test_no_later_letter_undoes_it(self):
        letters = (
            (1, "ask", 3, 0, 1),
            (1, "ask", 8, 0, 1),
            (-1, "ask", 9, 1, 2),
            (1, "answer", 8, 0, 0),
            (1, "crown", 9, 0, 0),
        )
        for letter in letters:
            with self.subTest(letter=letter):
                hand = beaten(7)
                hand.take(letter)
                hand.take((1, "answer", 7, 0, 0))
                self.assertEqual(hand.take((-1, "answer", 7, 0, 0)), [])
                self.assertEqual(hand.stage(), 0)

    def test_still_sends_on_what_points_5_to_7_say(self):
        hand = beaten(7)
        self.assertEqual(hand.take((1, "ask", 9, 2, 3)), [(1, "ask", 9, 2, 2)])
        self.assertEqual(hand.take((-1, "ask", 9, 2, 1)), [(1, "answer", 9, 2, 0)])
        self.assertEqual(hand.take((-1, "ask", 8, 0, 1)), [(1, "answer", 8, 0, 0)])
        self.assertEqual(hand.take((-1, "answer", 9, 2, 0)), [(-1, "answer", 9, 2, 0)])
        self.assertEqual(hand.take((1, "crown", 9, 0, 0)), [(1, "crown", 9, 0, 0)])
        self.assertEqual(hand.knows(), 9)


class TestOwnAsk(unittest.TestCase):
    def test_makes_it_the_first_and_sends_a_crown_to_the_right(self):
        for way in WAYS:
            for stage, steps in ((0, 1), (1, 1), (1, 2), (6, 37)):
                with self.subTest(way=way, stage=stage, steps=steps):
                    hand = at_stage(7, stage)
                    self.assertEqual(
                        hand.take((way, "ask", 7, stage, steps)), [(1, "crown", 7, 0, 0)]
                    )
                    self.assertIs(hand.is_first(), True)
                    self.assertEqual(state(hand), (7, True, True, stage, 7))

    def test_once_more_nothing_happens(self):
        for way in WAYS:
            with self.subTest(way=way):
                hand = first(7)
                self.assertEqual(hand.take((way, "ask", 7, 0, 1)), [])
                self.assertEqual(hand.take((-way, "ask", 7, 0, 5)), [])
                self.assertEqual(state(hand), (7, True, True, 0, 7))

    def test_numbers_of_any_size(self):
        for number in (0, BIG):
            with self.subTest(number=number):
                hand = woken(number)
                self.assertEqual(
                    hand.take((-1, "ask", number, 0, 1)), [(1, "crown", number, 0, 0)]
                )
                self.assertEqual(state(hand), (number, True, True, 0, number))
                self.assertEqual(hand.take((1, "ask", number, 0, 1)), [])

    def test_no_other_letter_makes_it_the_first(self):
        letters = (
            (1, "ask", 3, 0, 1),
            (1, "ask", 8, 0, 1),
            (1, "answer", 7, 0, 0),
            (1, "answer", 8, 0, 0),
            (1, "crown", 8, 0, 0),
            (1, "crown", 7, 0, 0),
        )
        hand = woken(7)
        for letter in letters:
            with self.subTest(letter=letter):
                hand.take(letter)
                self.assertIs(hand.is_first(), False)


if __name__ == "__main__":
    unittest.main()
