"""How a refusal is told from the others."""

from ringcrown.errors import BadCount, BadRing, NoHand, NoMail, RingError

REFUSALS = (BadRing, NoHand, NoMail, BadCount)


def assert_refuses(test, refusal, deed, *handed_in):
    """The deed raises just this refusal."""
    with test.assertRaises(refusal) as caught:
        deed(*handed_in)
    test.assertIsInstance(caught.exception, RingError)
    test.assertIsInstance(caught.exception, ValueError)
    kinds = [kind for kind in REFUSALS if isinstance(caught.exception, kind)]
    test.assertEqual(kinds, [refusal])
