"""Gates that are built: never two within, nobody shut, and no hands that hang."""

from gatehands.errors import OtherGate
from gatehands.gates import IN, Gate

FEWEST_BITS = 2
MOST_BITS = 4
# The boxes of a duel: the first side's sign, the second side's, and the side that came last.
LOWER = (0, 1, 2)
UPPER = (3, 4, 5)


def pair():
    """Build a gate of two hands that fight one duel."""
    hands = [(1, duel(LOWER, side, 0) + [IN, ("put", LOWER[side], 0)]) for side in (0, 1)]
    return Gate([(0, 1)] * 3, hands)


def bits(many):
    """Build a gate of two to four hands, each with a sign of its own in just one box."""
    if not FEWEST_BITS <= many <= MOST_BITS:
        raise OtherGate(f"the hands are {FEWEST_BITS} to {MOST_BITS}")
    return Gate([(0, 1)] * many, [(1, sign_program(hand, many)) for hand in range(many)])


def tower():
    """Build a gate of three hands: who wins the duel of hands 0 and 1 fights one against hand 2."""
    hands = []
    for side in (0, 1):
        # The upper sign comes down first: below it the other hand may come up, and needs it.
        leave = [("put", UPPER[0], 0), ("put", LOWER[side], 0)]
        hands.append((1, duel(LOWER, side, 0) + duel(UPPER, 0, 4) + [IN] + leave))
    hands.append((1, duel(UPPER, 1, 0) + [IN, ("put", UPPER[1], 0)]))
    return Gate([(0, 1)] * 6, hands)


def duel(boxes, side, start):
    """List the steps, numbered from start on, by which one of two sides wins: the last one to come gives way."""
    last = boxes[2]
    return [
        ("put", boxes[side], 1),
        ("put", last, side),
        ("go", boxes[1 - side], (0,), start + 4),
        ("go", last, (side,), start + 2),
    ]


def sign_program(hand, many):
    """List the steps of a hand that gives way to lower ones, with its sign down, and to higher ones with it up.

    Step 0 does nothing, as no step can go on there again.
    """
    lower = [("go", other, (1,), 1) for other in range(hand)]
    steps = [("go", hand, (), 1), ("put", hand, 0)] + lower + [("put", hand, 1)] + lower
    for other in range(hand + 1, many):
        steps.append(("go", other, (1,), len(steps)))
    return steps + [IN, ("put", hand, 0)]
