"""Points 3, 4 and 8 in a ring: who is woken, and where the letters go."""

import unittest

from ringcrown.ring import Ring
from tests.rings import asks, hand_at, told, woken

AWAKE = (True, False, 0, None)
ASLEEP = (False, False, None, None)


class TestWake(unittest.TestCase):
    def test_the_second_of_two(self):
        ring = Ring([3, 5])
        self.assertIs(ring.wake(1), True)
        mails = [(0, 1, "ask", 5, 0, 1), (0, -1, "ask", 5, 0, 1)]
        self.assertEqual(told(ring, 2), (mails, 2, [ASLEEP, AWAKE]))

    def test_true_for_a_hand_that_slept_then_false(self):
        for many in (1, 2, 3, 5, 64):
            for place in {0, 1 % many, many // 2, many - 1}:
                with self.subTest(many=many, place=place):
                    ring = Ring(list(range(10, 10 + many)))
                    self.assertIs(ring.wake(place), True)
                    after = told(ring, many)
                    self.assertIs(ring.wake(place), False)
                    self.assertIs(ring.wake(place), False)
                    self.assertEqual(told(ring, many), after)

    def test_wakes_the_hand_at_the_place_alone(self):
        for many in (1, 2, 3, 64):
            for place in range(many):
                with self.subTest(many=many, place=place):
                    ring = woken(range(many), place)
                    for other in range(many):
                        state = AWAKE if other == place else ASLEEP
                        self.assertEqual(hand_at(ring, other), state)

    def test_false_for_a_hand_that_a_letter_woke(self):
        for letter in (0, 1):
            with self.subTest(letter=letter):
                ring = woken([3, 5, 4], 1)
                place = ring.bring(letter)[0]
                after = told(ring, 3)
                self.assertIs(ring.wake(place), False)
                self.assertEqual(told(ring, 3), after)
                self.assertIs(ring.wake(2 - place), True)

    def test_false_for_every_hand_when_all_is_over(self):
        ring = woken([3, 5, 4], 0)
        ring.rest()
        after = told(ring, 3)
        for place in range(3):
            self.assertIs(ring.wake(place), False)
        self.assertEqual(told(ring, 3), after)

    def test_waking_puts_its_mails_behind_the_row(self):
        ring = Ring([4, 0, 10**30])
        row = []
        for place, number in ((2, 10**30), (0, 4), (1, 0)):
            self.assertIs(ring.wake(place), True)
            row += asks(3, place, number)
            self.assertEqual(ring.mails(), row)
            self.assertEqual(ring.sent(), len(row))


class TestNeighbours(unittest.TestCase):
    def test_a_hand_by_itself_is_its_own_neighbour(self):
        ring = woken([7], 0)
        self.assertEqual(ring.mails(), [(0, 1, "ask", 7, 0, 1), (0, -1, "ask", 7, 0, 1)])

    def test_of_two_hands_each_is_the_neighbour_on_both_sides(self):
        ring = woken([3, 5], 0, 1)
        self.assertEqual(
            ring.mails(),
            [
                (1, 1, "ask", 3, 0, 1),
                (1, -1, "ask", 3, 0, 1),
                (0, 1, "ask", 5, 0, 1),
                (0, -1, "ask", 5, 0, 1),
            ],
        )

    def test_of_the_first_the_middle_and_the_last_place(self):
        neighbours = {0: (1, 4), 1: (2, 0), 2: (3, 1), 3: (4, 2), 4: (0, 3)}
        for place, (right, left) in neighbours.items():
            with self.subTest(place=place):
                ring = woken([9, 8, 7, 6, 5], place)
                number = 9 - place
                self.assertEqual(
                    ring.mails(),
                    [(right, 1, "ask", number, 0, 1), (left, -1, "ask", number, 0, 1)],
                )

    def test_of_the_first_and_the_last_of_64(self):
        ring = woken(range(64), 63, 0)
        self.assertEqual(
            ring.mails(),
            [
                (0, 1, "ask", 63, 0, 1),
                (62, -1, "ask", 63, 0, 1),
                (1, 1, "ask", 0, 0, 1),
                (63, -1, "ask", 0, 0, 1),
            ],
        )

    def test_of_every_place_in_rings_of_every_size(self):
        for many in range(1, 65):
            for place in range(many):
                ring = woken(range(many), place)
                self.assertEqual(ring.mails(), asks(many, place, place))


if __name__ == "__main__":
    unittest.main()
