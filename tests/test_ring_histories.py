"""Points 10, 11 and 12 behind each deed of whole histories, and the end of point 10."""

import unittest

from ringcrown.ring import Ring
from tests.histories import BIG, NUMBERS, ORDERS, WOKEN
from tests.rings import letters_at_most, told, woken

SIZES = (1, 2, 3, 4, 5, 6, 7, 8, 9, 16, 17, 33, 64)


def distance(many, place, other):
    apart = abs(place - other)
    return min(apart, many - apart)


def leads(numbers):
    """How far each hand's next greater one is away, None for the greatest."""
    many = len(numbers)
    found = []
    for place, number in enumerate(numbers):
        greater = [
            distance(many, place, other) for other in range(many) if numbers[other] > number
        ]
        found.append(min(greater, default=None))
    return found


class Watch:
    """Looks at a ring behind each deed, and holds it to what is promised."""

    def __init__(self, test, numbers):
        self.test = test
        self.numbers = numbers
        self.many = len(numbers)
        self.greatest = max(numbers)
        self.leads = leads(numbers)
        self.most = letters_at_most(self.many)
        self.ring = Ring(list(numbers))
        self.stages = [None] * self.many
        self.came = 0
        self.look()

    def wake(self, place):
        slept = not self.ring.is_awake(place)
        self.test.assertIs(self.ring.wake(place), slept)
        self.look()

    def bring(self, order):
        row = self.ring.mails()
        chosen = order.choose(row, self.greatest)
        self.test.assertEqual(self.ring.bring(chosen), row[chosen])
        self.came += 1
        self.look()

    def look(self):
        under_way = len(self.ring.mails())
        self.test.assertEqual(self.ring.sent(), self.came + under_way)
        self.test.assertLessEqual(self.ring.sent(), self.most)
        self.look_who_is_first()
        self.look_at_stages()
        if under_way == 0 and any(self.ring.is_awake(place) for place in range(self.many)):
            self.look_at_the_end()

    def look_who_is_first(self):
        for place, number in enumerate(self.numbers):
            if self.ring.is_first(place):
                self.test.assertEqual(number, self.greatest)
                self.test.assertEqual(self.ring.knows(place), number)
            self.test.assertIn(self.ring.knows(place), (None, self.greatest))

    def look_at_stages(self):
        stages = [self.ring.stage(place) for place in range(self.many)]
        if stages == self.stages:
            return
        for place, stage in enumerate(stages):
            self.look_at_stage(place, stage)
        self.look_how_far_apart(stages)
        self.stages = stages

    def look_at_stage(self, place, stage):
        before, lead = self.stages[place], self.leads[place]
        if before is not None:
            self.test.assertIsNotNone(stage)
            self.test.assertGreaterEqual(stage, before)
        if stage is not None:
            self.test.assertGreaterEqual(stage, 0)
        self.test.assertIs(self.ring.is_awake(place), stage is not None)
        if stage and lead is not None:
            self.test.assertGreater(lead, 2 ** (stage - 1))

    def look_how_far_apart(self, stages):
        risen = [place for place, stage in enumerate(stages) if stage]
        for place in risen:
            for other in risen:
                if place < other:
                    reach = 2 ** (min(stages[place], stages[other]) - 1)
                    self.test.assertGreater(distance(self.many, place, other), reach)

    def look_at_the_end(self):
        for place, number in enumerate(self.numbers):
            self.test.assertIs(self.ring.is_awake(place), True)
            self.test.assertIs(self.ring.is_first(place), number == self.greatest)
            self.test.assertEqual(self.ring.knows(place), self.greatest)

    def wake_again(self):
        before = told(self.ring, self.many)
        for place in range(self.many):
            self.test.assertIs(self.ring.wake(place), False)
        self.test.assertEqual(told(self.ring, self.many), before)
        self.test.assertEqual(self.ring.rest(), 0)


class TestHistories(unittest.TestCase):
    def test_all_woken_ahead_of_the_first_mail(self):
        for many in SIZES:
            for numbers in NUMBERS.values():
                for places in WOKEN.values():
                    for order in ORDERS:
                        with self.subTest(many=many, numbers=numbers, places=places, order=order):
                            watch = Watch(self, numbers(many))
                            for place in places(many):
                                watch.wake(place)
                            self.play_to_the_end(watch, order())

    def test_woken_between_the_mails(self):
        for many in (2, 3, 5, 8, 9, 33):
            for numbers in NUMBERS.values():
                for between in (1, 2, 7):
                    for order in ORDERS:
                        with self.subTest(many=many, numbers=numbers, between=between, order=order):
                            watch = Watch(self, numbers(many))
                            self.wake_by_and_by(watch, order(), between)
                            self.play_to_the_end(watch, order())

    def test_each_hand_as_the_only_one_woken(self):
        for many in range(1, 10):
            for place in range(many):
                for order in ORDERS:
                    with self.subTest(many=many, place=place, order=order):
                        watch = Watch(self, NUMBERS["mixed"](many))
                        watch.wake(place)
                        self.play_to_the_end(watch, order())

    def test_the_greatest_at_each_place(self):
        for many in range(1, 10):
            for turn in range(many):
                numbers = NUMBERS["ruler"](many)
                for order in ORDERS:
                    with self.subTest(many=many, turn=turn, order=order):
                        watch = Watch(self, numbers[turn:] + numbers[:turn])
                        watch.wake(0)
                        self.play_to_the_end(watch, order())

    def wake_by_and_by(self, watch, order, between):
        for place in range(watch.many):
            watch.wake(place)
            for _ in range(between):
                if watch.ring.mails():
                    watch.bring(order)

    def play_to_the_end(self, watch, order):
        while watch.ring.mails():
            watch.bring(order)
        watch.look_at_the_end()
        self.assertEqual(watch.ring.sent(), watch.came)
        watch.wake_again()


class TestEnds(unittest.TestCase):
    def test_no_hand_is_the_first_as_long_as_none_was_woken(self):
        ring = Ring([3, 5, 4])
        self.assertEqual(ring.rest(), 0)
        for place in range(3):
            self.assertIs(ring.is_first(place), False)
            self.assertIsNone(ring.knows(place))

    def test_the_greatest_is_nought_where_it_is_alone(self):
        ring = woken([0], 0)
        ring.rest()
        self.assertIs(ring.is_first(0), True)
        self.assertEqual(ring.knows(0), 0)

    def test_the_greatest_comes_to_the_stage_whose_asks_go_round(self):
        for many in range(1, 65):
            with self.subTest(many=many):
                ring = woken(range(many), many // 2)
                ring.rest()
                stage = 0
                while 2**stage < many:
                    stage += 1
                self.assertEqual(ring.stage(many - 1), stage)

    def test_numbers_side_by_side_beyond_all_sizes(self):
        ring = woken([BIG + 1, BIG, BIG + 2, 0], 1)
        ring.rest()
        self.assertEqual([ring.knows(place) for place in range(4)], [BIG + 2] * 4)
        self.assertEqual([ring.is_first(place) for place in range(4)], [False, False, True, False])

    def test_the_letters_of_rings_with_every_hand_woken(self):
        # Worked out by hand, stage by stage: the asks, each step of them, the answers on
        # their way back, and at the end the crown.
        for numbers, sent in (([7], 3), ([3, 5], 12), ([1, 2, 3], 26)):
            with self.subTest(numbers=numbers):
                ring = woken(numbers, *range(len(numbers)))
                ring.rest()
                self.assertEqual(ring.sent(), sent)


class TestNumbers(unittest.TestCase):
    def test_those_of_the_histories_make_rings(self):
        for numbers in NUMBERS.values():
            for many in range(1, 65):
                row = numbers(many)
                self.assertEqual(len(set(row)), many)
                self.assertGreaterEqual(min(row), 0)
        self.assertIn(0, NUMBERS["mixed"](64))
        self.assertGreater(max(NUMBERS["mixed"](2)), BIG)


if __name__ == "__main__":
    unittest.main()
