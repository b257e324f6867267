"""How many letters a ring sends at the most."""

from ringcrown.errors import BadCount
from ringcrown.ring import MOST_HANDS
from ringcrown.whole import is_whole

# 4 letters for the asks of stage 0 and their answers, 2 for the last asks, which go
# all the way round, and 1 for the crown.
LETTERS_OF_A_HAND = 7

# At the stages between, each of two asks goes so many steps, and its answer goes back.
LETTERS_OF_A_STEP = 4


def bound(many):
    """The most letters that a ring of so many hands sends in all."""
    if not is_whole(many) or not 1 <= many <= MOST_HANDS:
        raise BadCount("a count of hands is a whole number from 1 to 64")
    letters = LETTERS_OF_A_HAND * many
    steps = 2
    while steps < many:
        letters += LETTERS_OF_A_STEP * steps * _most_at_stage(steps, many)
        steps *= 2
    return letters


def _most_at_stage(steps, many):
    # Hands that came to a stage are farther apart than the asks of the stage ahead went.
    return many // (steps // 2 + 1)
