"""Point 13: BadRing, NoHand and NoMail."""

import unittest

from ringcrown.errors import BadRing, NoHand, NoMail
from ringcrown.ring import Ring
from tests.refusals import assert_refuses
from tests.rings import OTHER_KINDS, no_places, told, woken

NO_LISTS = (
    *(kind for kind in OTHER_KINDS if not isinstance(kind, list)),
    0,
    5,
    -1,
    (3, 5),
    "35",
    "abc",
    b"ab",
    bytearray(b"ab"),
    {3, 5},
    frozenset((3, 5)),
    {3: 5, 5: 3},
    range(3),
)

NO_NUMBERS = (-1, -2, -(10**30), -(10**5000), *OTHER_KINDS)

ASKED = ("wake", "is_awake", "is_first", "stage", "knows")


class TestBadRing(unittest.TestCase):
    def test_what_is_no_list(self):
        for numbers in NO_LISTS:
            with self.subTest(kind=type(numbers)):
                assert_refuses(self, BadRing, Ring, numbers)

    def test_what_can_be_read_once_is_no_list(self):
        assert_refuses(self, BadRing, Ring, iter([3, 5]))
        assert_refuses(self, BadRing, Ring, (number for number in (3, 5)))

    def test_an_empty_list(self):
        assert_refuses(self, BadRing, Ring, [])

    def test_more_than_64_numbers(self):
        for many in (65, 66, 100, 1000):
            with self.subTest(many=many):
                assert_refuses(self, BadRing, Ring, list(range(many)))

    def test_a_number_twice(self):
        for many in (2, 3, 4, 5, 9, 64):
            for later in range(1, many):
                for place in range(later):
                    for number in (0, 10**30, 10**5000):
                        numbers = list(range(100, 100 + many))
                        numbers[place] = numbers[later] = number
                        copy = list(numbers)
                        assert_refuses(self, BadRing, Ring, numbers)
                        self.assertEqual(numbers, copy)

    def test_the_same_number_at_every_place(self):
        for many in (2, 3, 64):
            assert_refuses(self, BadRing, Ring, [0] * many)

    def test_what_is_no_whole_number_from_nought_on_at_any_place(self):
        for many in (1, 2, 3, 64):
            for place in {0, many // 2, many - 1}:
                for number in NO_NUMBERS:
                    with self.subTest(many=many, place=place, kind=type(number)):
                        numbers = list(range(10, 10 + many))
                        numbers[place] = number
                        copy = list(numbers)
                        assert_refuses(self, BadRing, Ring, numbers)
                        self.assertEqual(len(numbers), many)
                        for now, before in zip(numbers, copy):
                            self.assertIs(now, before)

    def test_truths_beside_the_numbers_that_they_equal(self):
        for numbers in ([0, False], [True, 1], [True, False], [0, True], [1, False]):
            with self.subTest(numbers=numbers):
                assert_refuses(self, BadRing, Ring, numbers)

    def test_a_list_that_holds_itself(self):
        numbers = [3]
        numbers.append(numbers)
        assert_refuses(self, BadRing, Ring, numbers)

    def test_the_edges_that_are_no_refusal(self):
        for numbers in ([0], [1, 0], list(range(64)), [10**5000], [0, 10**5000]):
            Ring(numbers)


class TestNoHand(unittest.TestCase):
    def rings(self):
        for numbers in ([7], [3, 5], [5, 1, 4], list(range(64))):
            many = len(numbers)
            yield many, Ring(numbers)
            yield many, woken(numbers, many - 1)
            under_way = woken(numbers, 0, many // 2)
            under_way.bring(1)
            yield many, under_way
            over = woken(numbers, 0)
            over.rest()
            yield many, over

    def test_each_asker_refuses_and_changes_nothing(self):
        for many, ring in self.rings():
            before = told(ring, many)
            for name in ASKED:
                for place in no_places(many):
                    with self.subTest(many=many, name=name, kind=type(place)):
                        assert_refuses(self, NoHand, getattr(ring, name), place)
                        self.assertEqual(told(ring, many), before)

    def test_the_first_and_the_last_place_are_no_refusal(self):
        for many, ring in self.rings():
            for name in ASKED:
                for place in (0, many - 1):
                    getattr(ring, name)(place)


class TestNoMail(unittest.TestCase):
    def test_refuses_and_changes_nothing(self):
        for numbers in ([7], [3, 5], [5, 1, 4], list(range(64))):
            many = len(numbers)
            ring = woken(numbers, 0)
            for brought in range(4):
                before = told(ring, many)
                for place in no_places(len(before[0])):
                    if type(place) is int and 0 <= place < len(before[0]):
                        continue
                    with self.subTest(many=many, brought=brought, kind=type(place)):
                        assert_refuses(self, NoMail, ring.bring, place)
                        self.assertEqual(told(ring, many), before)
                if before[0]:
                    ring.bring(0)

    def test_where_none_is_under_way(self):
        over = woken([3, 5], 0)
        over.rest()
        for ring in (Ring([3, 5]), over):
            before = told(ring, 2)
            for place in (0, 1, *no_places(0)):
                with self.subTest(kind=type(place)):
                    assert_refuses(self, NoMail, ring.bring, place)
                    self.assertEqual(told(ring, 2), before)

    def test_the_last_place_is_no_refusal_and_the_next_is_one(self):
        ring = woken([5, 1, 4], 0, 1, 2)
        while ring.mails():
            row = ring.mails()
            assert_refuses(self, NoMail, ring.bring, len(row))
            self.assertEqual(ring.bring(len(row) - 1), row[-1])
        assert_refuses(self, NoMail, ring.bring, 0)


class TestHistoryWithRefusals(unittest.TestCase):
    def test_goes_on_as_one_without(self):
        ring, kept = Ring([5, 1, 4, 2]), Ring([5, 1, 4, 2])
        self.ask_badly(ring)
        self.assertEqual(ring.wake(1), kept.wake(1))
        while kept.mails():
            self.ask_badly(ring)
            chosen = len(kept.mails()) // 2
            self.assertEqual(ring.bring(chosen), kept.bring(chosen))
            self.assertEqual(told(ring, 4), told(kept, 4))
        self.ask_badly(ring)
        self.assertEqual(told(ring, 4), told(kept, 4))

    def ask_badly(self, ring):
        for place in (-1, len(ring.mails()), True, None, "0"):
            assert_refuses(self, NoMail, ring.bring, place)
        for place in (-1, 4, True, None, "0"):
            for name in ASKED:
                assert_refuses(self, NoHand, getattr(ring, name), place)


if __name__ == "__main__":
    unittest.main()
