"""States of a gate, and how the steps of its hands lead from one to another."""

from gatehands.errors import NoHand


def begin(gate):
    """Tell the state that is ahead of all steps."""
    return tuple([first for first, most in gate.pairs]), (0,) * gate.many()


def done(gate, state, hand):
    """Tell the state behind the next step of a hand."""
    check_hand(gate, hand)
    boxes, places = state
    program = gate.programs[hand]
    step = program[places[hand]]
    behind = (places[hand] + 1) % len(program)
    if step[0] == "put":
        boxes = replaced(boxes, step[1], step[2])
    elif step[0] == "go" and boxes[step[1]] in step[2]:
        behind = step[3]
    return boxes, replaced(places, hand, behind)


def played(gate, weaving):
    """List the states of a weaving, from the first one on."""
    states = [begin(gate)]
    for hand in weaving:
        states.append(done(gate, states[-1], hand))
    return states


def within(gate, state):
    """List the hands that are within."""
    return [hand for hand, place in enumerate(state[1]) if place == gate.insides[hand]]


def waiting(gate, state):
    """List the hands that wait to come within."""
    return [hand for hand, place in enumerate(state[1]) if gate.knocks[hand] <= place < gate.insides[hand]]


def outside(gate, state):
    """List the hands that are outside."""
    return [hand for hand, place in enumerate(state[1]) if place == 0]


def check_hand(gate, hand):
    """Refuse a hand that there isn't; Python itself would count one below 0 from the end.

    The message leaves the number out, as Python does not write one of very many figures.
    """
    if not 0 <= hand < gate.many():
        raise NoHand("there is no such hand")


def replaced(numbers, at, number):
    """Tell the tuple with another number at one place."""
    return numbers[:at] + (number,) + numbers[at + 1:]
