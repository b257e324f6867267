"""A ring of hands, and the mails that are under way between them.

A mail is a tuple (place, way, word, number, stage, steps): a letter, and ahead of it
the place of the hand to which it goes.
"""

from ringcrown.errors import BadRing, NoHand, NoMail
from ringcrown.hand import Hand
from ringcrown.whole import is_whole

MOST_HANDS = 64


class Ring:
    """A ring of hands, by places from nought on, all of them asleep at first."""

    def __init__(self, numbers):
        # No refusal shows what was handed in: Python cannot write out every number.
        if not _is_ring(numbers):
            raise BadRing("a ring is a list of 1 to 64 unlike whole numbers from nought on")
        self._hands = [Hand(number) for number in numbers]
        self._mails = []
        self._sent = 0

    def wake(self, place):
        """Wake the hand at the place; True if it slept, else False."""
        hand = self._hand(place)
        slept = not hand.is_awake()
        self._send(place, hand.wake())
        return slept

    def mails(self):
        """The mails under way, in the order in which they were sent."""
        return list(self._mails)

    def bring(self, place):
        """Bring the mail at the place of the row to its hand; the mail."""
        if not _is_place(place, self._mails):
            raise NoMail("no mail is under way at this place")
        mail = self._mails.pop(place)
        to = mail[0]
        self._send(to, self._hands[to].take(mail[1:]))
        return mail

    def rest(self):
        """Bring the first mail again and again until none is under way; how many came."""
        came = 0
        while self._mails:
            self.bring(0)
            came += 1
        return came

    def sent(self):
        """How many letters were sent so far."""
        return self._sent

    def is_awake(self, place):
        return self._hand(place).is_awake()

    def is_first(self, place):
        return self._hand(place).is_first()

    def stage(self, place):
        """The stage of the hand at the place, None as long as it sleeps."""
        return self._hand(place).stage()

    def knows(self, place):
        """The number that the hand at the place knows as the greatest, or None."""
        return self._hand(place).knows()

    def _hand(self, place):
        if not _is_place(place, self._hands):
            raise NoHand("no hand is at this place")
        return self._hands[place]

    def _send(self, place, letters):
        for letter in letters:
            # The way of a letter, 1 or -1, is also the step from place to place.
            to = (place + letter[0]) % len(self._hands)
            self._mails.append((to, *letter))
        self._sent += len(letters)


def _is_ring(numbers):
    if not isinstance(numbers, list) or not 1 <= len(numbers) <= MOST_HANDS:
        return False
    if not all(is_whole(number) and number >= 0 for number in numbers):
        return False
    return len(set(numbers)) == len(numbers)


def _is_place(place, row):
    return is_whole(place) and 0 <= place < len(row)
