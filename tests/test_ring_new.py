"""A new ring, and what the interface lists for ringcrown.ring and ringcrown.bounds."""

import unittest

from ringcrown import bounds, ring as ring_file
from ringcrown.ring import MOST_HANDS, Ring
from tests.rings import told

ASLEEP = (False, False, None, None)

NEW_RINGS = (
    [0],
    [7],
    [10**30],
    [10**5000],
    [3, 5],
    [5, 3],
    [0, 10**30],
    [2, 0, 1],
    [10**30 + 1, 4, 10**30],
    list(range(63)),
    list(range(64)),
    [10**30 - 7 * place for place in range(64)],
)


class TestNewRing(unittest.TestCase):
    def test_every_hand_sleeps_and_nothing_is_under_way(self):
        for numbers in NEW_RINGS:
            many = len(numbers)
            with self.subTest(many=many):
                ring = Ring(numbers)
                self.assertEqual(told(ring, many), ([], 0, [ASLEEP] * many))

    def test_kinds_of_the_values_told(self):
        ring = Ring([3, 5])
        self.assertIs(type(ring.mails()), list)
        self.assertIs(type(ring.sent()), int)
        self.assertIs(type(ring.rest()), int)
        self.assertIs(ring.is_awake(0), False)
        self.assertIs(ring.is_first(0), False)
        self.assertIsNone(ring.stage(0))
        self.assertIsNone(ring.knows(0))

    def test_rest_has_nothing_to_bring(self):
        for numbers in NEW_RINGS:
            many = len(numbers)
            with self.subTest(many=many):
                ring = Ring(numbers)
                self.assertEqual(ring.rest(), 0)
                self.assertEqual(told(ring, many), ([], 0, [ASLEEP] * many))

    def test_the_list_that_is_handed_in_is_as_it_was(self):
        for numbers in NEW_RINGS:
            with self.subTest(many=len(numbers)):
                copy = list(numbers)
                ring = Ring(numbers)
                self.assertEqual(numbers, copy)
                ring.wake(0)
                ring.rest()
                self.assertEqual(numbers, copy)


class TestInterface(unittest.TestCase):
    def test_most_hands(self):
        self.assertEqual(MOST_HANDS, 64)
        self.assertIs(type(MOST_HANDS), int)

    def test_each_is_defined_in_the_file_of_the_interface(self):
        self.assertEqual(ring_file.Ring.__module__, "ringcrown.ring")
        self.assertEqual(bounds.bound.__module__, "ringcrown.bounds")

    def test_each_method_is_defined_in_the_class_itself(self):
        listed = ("wake", "mails", "bring", "rest", "sent")
        for name in (*listed, "is_awake", "is_first", "stage", "knows"):
            with self.subTest(name=name):
                self.assertIn(name, vars(Ring))

    def test_names_of_the_arguments(self):
        ring = Ring(numbers=[3, 5])
        self.assertIs(ring.wake(place=1), True)
        self.assertEqual(ring.bring(place=0), (0, 1, "ask", 5, 0, 1))
        self.assertIs(ring.is_awake(place=0), True)
        self.assertIs(ring.is_first(place=0), False)
        self.assertEqual(ring.stage(place=0), 0)
        self.assertIsNone(ring.knows(place=0))
        self.assertEqual(bounds.bound(many=1), 7)


if __name__ == "__main__":
    unittest.main()
