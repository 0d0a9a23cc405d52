"""One box too few: two hands with one box are both within behind some weaving, or one of them is shut."""

from gatehands.choices import choices, many_choices
from gatehands.errors import OtherGate
from gatehands.gates import IDLE, IN, Gate
from gatehands.walking import begin, done, within

MOST_TRIED = 9
MOST_GATES = 4096


def breaker(gate):
    """Tell which of hands 0 and 1 is shut, or else a weaving behind which both are within.

    Hand 0 stops ahead of its first put, so hand 1 sees nothing of it; that put
    then hides all that hand 1 has put, so hand 0 goes on as if it were alone.
    (Alone a hand that comes within does each put once at most, as a put settles
    all that comes behind it: so the weaving stays below 300 steps.)
    """
    if gate.many() < 2 or len(gate.boxes()) != 1:
        raise OtherGate("a gate of two hands or more with one box is asked for")
    first, second = states_alone(gate, 0), states_alone(gate, 1)
    for hand, states in ((0, first), (1, second)):
        if hand not in within(gate, states[-1]):
            return "shut", hand
    ahead = steps_ahead_of_put(gate, first)
    return "two", [0] * ahead + [1] * (len(second) - 1) + [0] * (len(first) - 1 - ahead)


def tries(most, ahead, after):
    """Count the gates of one box and a program of this form, and how many are broken each way."""
    if not all([0 <= number <= MOST_TRIED for number in (most, ahead, after)]):
        raise OtherGate(f"the numbers are from 0 to {MOST_TRIED}")
    parts = steps_tried(most, ahead, after)
    if many_choices(parts) > MOST_GATES:
        raise OtherGate(f"there are more than {MOST_GATES} gates")
    words = [breaker(twins(most, steps))[0] for steps in choices(parts)]
    return len(words), words.count("two"), words.count("shut")


def states_alone(gate, hand):
    """List the states from the first one on, by this hand's steps, up to one in which it is within or that was seen."""
    states = [begin(gate)]
    seen = set()
    while hand not in within(gate, states[-1]) and states[-1] not in seen:
        seen.add(states[-1])
        states.append(done(gate, states[-1], hand))
    return states


def steps_ahead_of_put(gate, states):
    """Count the steps that hand 0 does ahead of its first put, or up to the last of these states if it has none."""
    for number, state in enumerate(states):
        if gate.programs[0][state[1][0]][0] == "put":
            return number
    return len(states) - 1


def steps_tried(most, ahead, after):
    """List for each place of the program the steps that are tried there."""
    numbers = list(range(most + 1))
    puts = [("put", 0, number) for number in numbers]
    parts = [[IDLE]]
    for place in range(1, ahead + 1):
        parts.append(puts + [("go", 0, (number,), place) for number in numbers])
    return parts + [[IN]] + [puts] * after


def twins(most, steps):
    """Build the gate of two hands of the same program, with one box."""
    hand = (1, list(steps))
    return Gate([(0, most)], [hand, hand])
