"""What the tests ask of a ring, and what they hand in that is refused."""

from ringcrown.ring import Ring

# What is a place or a count for no ring: truths, texts and other kinds.
OTHER_KINDS = (
    True,
    False,
    None,
    "",
    "0",
    "1",
    b"0",
    [],
    [0],
    (),
    (0,),
    {},
    {0: 0},
    {0},
    0.0,
    1.0,
    0.5,
    float("inf"),
    float("nan"),
    0j,
    object(),
    int,
    len,
)


def told(ring, many):
    """All that a ring of so many hands tells."""
    return (ring.mails(), ring.sent(), [hand_at(ring, place) for place in range(many)])


def hand_at(ring, place):
    return (
        ring.is_awake(place),
        ring.is_first(place),
        ring.stage(place),
        ring.knows(place),
    )


def woken(numbers, *places):
    ring = Ring(list(numbers))
    for place in places:
        ring.wake(place)
    return ring


def asks(many, place, number):
    """The mails of a hand that is woken, by the words of points 3 and 8."""
    right = place + 1 if place + 1 < many else 0
    left = place - 1 if place > 0 else many - 1
    return [(right, 1, "ask", number, 0, 1), (left, -1, "ask", number, 0, 1)]


def letters_at_most(many):
    """The bound for so many hands, by the words of point 12."""
    return 7 * many + sum(
        4 * 2**stage * (many // (2 ** (stage - 1) + 1))
        for stage in range(1, many + 1)
        if 2**stage < many
    )


def no_places(many):
    """What is no place in a row of so many."""
    return (-1, -2, -many, -64, -(10**30), many, many + 1, 65, 10**30, 10**5000, *OTHER_KINDS)
