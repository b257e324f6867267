"""A hand by itself: it takes letters and tells which letters it sends for them.

A letter is a tuple (way, word, number, stage, steps).
"""

RIGHT = 1
LEFT = -1

ASK = "ask"
ANSWER = "answer"
CROWN = "crown"

ANSWERS_OF_A_STAGE = 2


class Hand:
    """A hand, asleep at first, that knows no number but its own."""

    def __init__(self, number):
        self.number = number
        self._stage = None
        self._steps = 1
        self._answers = 0
        self._beaten = False
        self._first = False
        self._greatest = None

    def wake(self):
        """Wake the hand; the letters that it sends for that."""
        if self.is_awake():
            return []
        self._stage = 0
        return self._asks()

    def take(self, letter):
        """Take a letter; the letters that the hand sends, in order."""
        return self.wake() + self._replies(letter)

    def is_awake(self):
        return self._stage is not None

    def is_first(self):
        return self._first

    def stage(self):
        """The stage of the hand, None as long as it sleeps."""
        return self._stage

    def knows(self):
        """The number that the hand knows as the greatest, or None."""
        return self._greatest

    def _asks(self):
        return [
            (RIGHT, ASK, self.number, self._stage, self._steps),
            (LEFT, ASK, self.number, self._stage, self._steps),
        ]

    def _replies(self, letter):
        word = letter[1]
        if word == ASK:
            return self._take_ask(letter)
        if word == ANSWER:
            return self._take_answer(letter)
        return self._take_crown(letter)

    def _take_ask(self, letter):
        way, word, number, stage, steps = letter
        if number < self.number:
            return []
        if number == self.number:
            return self._become_first()
        self._beaten = True
        if steps > 1:
            return [(way, word, number, stage, steps - 1)]
        return [(-way, ANSWER, number, stage, 0)]

    def _become_first(self):
        # Both asks of a stage can come round the ring, but one crown is enough.
        if self._first:
            return []
        self._first = True
        self._greatest = self.number
        return [(RIGHT, CROWN, self.number, 0, 0)]

    def _take_answer(self, letter):
        number, stage = letter[2], letter[3]
        if number != self.number:
            return [letter]
        if stage != self._stage:
            return []
        self._answers += 1
        # A beaten hand counts on, but it never asks again.
        if self._answers != ANSWERS_OF_A_STAGE or self._beaten:
            return []
        return self._rise()

    def _rise(self):
        self._stage += 1
        self._steps *= 2
        self._answers = 0
        return self._asks()

    def _take_crown(self, letter):
        number = letter[2]
        if number == self.number:
            return []
        self._greatest = number
        return [letter]
