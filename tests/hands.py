"""Hands at the moments that the tests ask about."""

from ringcrown.hand import Hand


def woken(number):
    hand = Hand(number)
    hand.wake()
    return hand


def beaten(number):
    hand = woken(number)
    hand.take((1, "ask", number + 1, 0, 1))
    return hand


def first(number):
    hand = woken(number)
    hand.take((1, "ask", number, 0, 1))
    return hand


def at_stage(number, stage):
    hand = woken(number)
    for passed in range(stage):
        hand.take((1, "answer", number, passed, 0))
        hand.take((-1, "answer", number, passed, 0))
    return hand


def state(hand):
    return (hand.number, hand.is_awake(), hand.is_first(), hand.stage(), hand.knows())
