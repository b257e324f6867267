"""Point 9: the row of the mails under way, and how a mail is brought."""

import unittest

from ringcrown.hand import Hand
from ringcrown.ring import Ring
from tests.rings import asks, hand_at, told, woken

AWAKE = (True, False, 0, None)


class TestBring(unittest.TestCase):
    def test_hands_back_the_mail_and_takes_it_out_of_the_row(self):
        for place in range(6):
            with self.subTest(place=place):
                ring = woken([30, 10, 20], 0, 1, 2)
                row = ring.mails()
                self.assertEqual(len(row), 6)
                mail = ring.bring(place)
                self.assertIs(type(mail), tuple)
                self.assertEqual(mail, row[place])
                left = row[:place] + row[place + 1 :]
                self.assertEqual(ring.mails()[:5], left)

    def test_what_the_hand_sends_is_put_behind_the_row(self):
        led_to = (
            [(0, -1, "answer", 30, 0, 0)],
            [(0, 1, "answer", 30, 0, 0)],
            [],
            [],
            [],
            [(2, 1, "answer", 20, 0, 0)],
        )
        for place, sent in enumerate(led_to):
            with self.subTest(place=place):
                ring = woken([30, 10, 20], 0, 1, 2)
                row = ring.mails()
                ring.bring(place)
                self.assertEqual(ring.mails(), row[:place] + row[place + 1 :] + sent)
                self.assertEqual(ring.sent(), 6 + len(sent))

    def test_the_hand_at_the_place_of_the_mail_takes_it(self):
        ring = woken([5, 1, 2, 3], 0)
        self.assertEqual(ring.bring(1), (3, -1, "ask", 5, 0, 1))
        self.assertEqual([ring.is_awake(place) for place in range(4)], [True, False, False, True])
        self.assertEqual(ring.bring(0), (1, 1, "ask", 5, 0, 1))
        self.assertEqual([ring.is_awake(place) for place in range(4)], [True, True, False, True])

    def test_a_hand_that_sleeps_is_woken_first(self):
        ring = woken([5, 1, 2], 0)
        ring.bring(0)
        self.assertEqual(
            ring.mails(),
            [
                (2, -1, "ask", 5, 0, 1),
                (2, 1, "ask", 1, 0, 1),
                (0, -1, "ask", 1, 0, 1),
                (0, -1, "answer", 5, 0, 0),
            ],
        )
        self.assertEqual(ring.sent(), 5)
        self.assertEqual(hand_at(ring, 1), AWAKE)

    def test_an_ask_with_more_steps_goes_on(self):
        ring = woken([5, 1, 2, 0], 0)
        while ring.stage(0) == 0:
            ring.bring(0)
        row = ring.mails()
        self.assertEqual(row[-2:], [(1, 1, "ask", 5, 1, 2), (3, -1, "ask", 5, 1, 2)])
        self.assertEqual(ring.bring(len(row) - 1), (3, -1, "ask", 5, 1, 2))
        self.assertEqual(ring.mails(), row[:-1] + [(2, -1, "ask", 5, 1, 1)])
        ring.bring(len(row) - 1)
        # The hand at place 2 has asked and is awake already.
        self.assertEqual(ring.mails(), row[:-1] + [(3, 1, "answer", 5, 1, 0)])

    def test_two_hands_from_the_first_mail_to_the_last(self):
        ring = woken([3, 5], 1)
        brought = [
            (0, 1, "ask", 5, 0, 1),
            (0, -1, "ask", 5, 0, 1),
            (1, 1, "ask", 3, 0, 1),
            (1, -1, "ask", 3, 0, 1),
            (1, -1, "answer", 5, 0, 0),
            (1, 1, "answer", 5, 0, 0),
            (0, 1, "ask", 5, 1, 2),
            (0, -1, "ask", 5, 1, 2),
            (1, 1, "ask", 5, 1, 1),
            (1, -1, "ask", 5, 1, 1),
            (0, 1, "crown", 5, 0, 0),
            (1, 1, "crown", 5, 0, 0),
        ]
        sent = [5, 6, 6, 6, 6, 8, 9, 10, 11, 11, 12, 12]
        for at, mail in enumerate(brought):
            self.assertEqual(ring.bring(0), mail)
            self.assertEqual(ring.sent(), sent[at])
            self.assertEqual(ring.mails(), brought[at + 1 : sent[at]])
        self.assertEqual(hand_at(ring, 0), (True, False, 0, 5))
        self.assertEqual(hand_at(ring, 1), (True, True, 1, 5))

    def test_a_hand_by_itself(self):
        ring = woken([7], 0)
        self.assertEqual(ring.bring(1), (0, -1, "ask", 7, 0, 1))
        self.assertEqual(hand_at(ring, 0), (True, True, 0, 7))
        self.assertEqual(ring.mails(), [(0, 1, "ask", 7, 0, 1), (0, 1, "crown", 7, 0, 0)])
        self.assertEqual(ring.bring(0), (0, 1, "ask", 7, 0, 1))
        self.assertEqual(ring.mails(), [(0, 1, "crown", 7, 0, 0)])
        self.assertEqual(ring.bring(0), (0, 1, "crown", 7, 0, 0))
        self.assertEqual(told(ring, 1), ([], 3, [(True, True, 0, 7)]))


class TestHandsOfARing(unittest.TestCase):
    def test_do_what_hands_by_themselves_do(self):
        for numbers in ([7], [3, 5], [5, 3, 4], [1, 9, 2, 8, 3, 7], [2, 0, 10**30, 4, 3]):
            for choose in (lambda row: 0, lambda row: len(row) - 1, lambda row: len(row) // 2):
                with self.subTest(numbers=numbers):
                    self.play_beside_hands(numbers, choose)

    def play_beside_hands(self, numbers, choose):
        many = len(numbers)
        ring, hands = woken(numbers, 0), [Hand(number) for number in numbers]
        hands[0].wake()
        row = asks(many, 0, numbers[0])
        sent = 2
        while row:
            self.assertEqual(ring.mails(), row)
            chosen = choose(row)
            place, *letter = row.pop(chosen)
            letters = hands[place].take(tuple(letter))
            row += [((place + one[0] + many) % many, *one) for one in letters]
            sent += len(letters)
            self.assertEqual(ring.bring(chosen), (place, *letter))
            self.assertEqual(ring.sent(), sent)
            states = [
                (hand.is_awake(), hand.is_first(), hand.stage(), hand.knows()) for hand in hands
            ]
            self.assertEqual(told(ring, many), (row, sent, states))


class TestRest(unittest.TestCase):
    def test_how_many_came(self):
        ring = woken([3, 5], 1)
        self.assertEqual(ring.rest(), 12)
        self.assertEqual(ring.mails(), [])
        self.assertEqual(ring.sent(), 12)
        self.assertEqual(ring.rest(), 0)

    def test_a_hand_by_itself(self):
        ring = woken([0], 0)
        self.assertEqual(ring.rest(), 3)
        self.assertEqual(told(ring, 1), ([], 3, [(True, True, 0, 0)]))

    def test_behind_some_brought_by_hand(self):
        for by_hand in range(12):
            with self.subTest(by_hand=by_hand):
                ring = woken([3, 5], 1)
                for _ in range(by_hand):
                    ring.bring(len(ring.mails()) // 2)
                self.assertEqual(ring.rest(), ring.sent() - by_hand)
                self.assertEqual(ring.mails(), [])

    def test_brings_the_first_of_the_row_again_and_again(self):
        for numbers in ([3, 5], [5, 1, 4, 2], list(range(9)), list(range(64))):
            ring, other = woken(numbers, 0), woken(numbers, 0)
            came = 0
            while other.mails():
                other.bring(0)
                came += 1
            self.assertEqual(ring.rest(), came)
            self.assertEqual(told(ring, len(numbers)), told(other, len(numbers)))

    def test_another_order_than_the_first_mail_leads_elsewhere(self):
        # In the order of sending, 2 comes to stage 1 ahead of the ask of 3 that beats it.
        ring, last_first = woken([2, 0, 3, 1], 0), woken([2, 0, 3, 1], 0)
        self.assertEqual(ring.rest(), 36)
        self.assertEqual([ring.stage(place) for place in range(4)], [1, 0, 2, 0])
        while last_first.mails():
            last_first.bring(len(last_first.mails()) - 1)
        self.assertEqual(last_first.sent(), 32)
        self.assertEqual([last_first.stage(place) for place in range(4)], [0, 0, 2, 0])

    def test_without_any_under_way(self):
        ring = Ring([3, 5])
        self.assertEqual(ring.rest(), 0)
        ring.wake(0)
        ring.rest()
        after = told(ring, 2)
        self.assertEqual(ring.rest(), 0)
        self.assertEqual(told(ring, 2), after)


if __name__ == "__main__":
    unittest.main()
