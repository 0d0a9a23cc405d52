"""What may not be: two within, one shut out by nobody, hands that hang, and hands that are held up."""

from gatehands.gates import IDLE, Gate
from gatehands.graphs import leading_to
from gatehands.maps import Map
from gatehands.walking import check_hand, done, outside, waiting, within


def two_within(gate):
    """Tell a shortest weaving behind which two hands or more are within; None if there is none."""
    drawn = Map(gate)
    for number, state in enumerate(drawn.states()):
        if len(within(gate, state)) >= 2:
            return drawn.weaving_to(number)
    return None


def shut(gate):
    """Tell a weaving behind which a hand is alone, and never within; and that hand."""
    drawn = Map(gate)
    hands = all_hands(gate)
    comes = [leading_to(steps_of(drawn, hand), where_within(gate, drawn, hand)) for hand in hands]
    for number, state in enumerate(drawn.states()):
        for hand in hands:
            if is_alone(gate, state, hand) and not comes[hand][number]:
                return drawn.weaving_to(number), hand
    return None


def hung(gate):
    """Tell a weaving behind which hands wait, none of which comes within unless one comes from outside."""
    drawn = Map(gate)
    behind = steps_of_all_but_outside(gate, drawn)
    comes = [leading_to(behind, where_within(gate, drawn, hand)) for hand in all_hands(gate)]
    for number, state in enumerate(drawn.states()):
        hands = waiting(gate, state)
        if hands and not any([comes[hand][number] for hand in hands]):
            return drawn.weaving_to(number), hands
    return None


def held_up(gate, state, hand):
    """List the hands that wait, and cannot come within if this hand does no more step."""
    check_hand(gate, hand)
    others = [other for other in all_hands(gate) if other != hand]
    waits = [other for other in waiting(gate, state) if other != hand]
    return [other for other in waits if not can_come(gate, state, other, others)]


def all_hands(gate):
    """List the numbers of all hands."""
    return list(range(gate.many()))


def is_alone(gate, state, hand):
    """Tell whether all other hands are outside."""
    resting = outside(gate, state)
    return all([other == hand or other in resting for other in all_hands(gate)])


def where_within(gate, drawn, hand):
    """Tell for each state of the map whether the hand is within."""
    return [hand in within(gate, state) for state in drawn.states()]


def steps_of(drawn, hand):
    """List for each state of the map the number behind this hand's step, in a list of its own."""
    return [[drawn.steps(number)[hand]] for number in range(len(drawn.states()))]


def steps_of_all_but_outside(gate, drawn):
    """List for each state of the map the numbers behind the steps of hands that are not outside there."""
    behind = []
    for number, state in enumerate(drawn.states()):
        resting = outside(gate, state)
        behind.append([other for hand, other in enumerate(drawn.steps(number)) if hand not in resting])
    return behind


def can_come(gate, state, hand, hands):
    """Tell whether a hand can come within by any weaving of these hands.

    No count of states bounds this search, so it leaves out what cannot matter,
    and runs into the depth with the hand's own steps first.
    """
    movers = heeded(gate, hand, hands)
    lean = without_unread(gate, movers)
    seen = set()
    todo = [state]
    while todo:
        here = todo.pop()
        if hand in within(lean, here):
            return True
        if here not in seen:
            seen.add(here)
            todo.extend([done(lean, here, mover) for mover in movers])
    return False


def heeded(gate, hand, hands):
    """List those of these hands whose steps can matter to a hand, and it as the last one.

    Others put nothing in a box that any of the listed ones reads.
    """
    movers = [hand]
    more = movers
    while more:
        boxes = boxes_read(gate, movers)
        more = [other for other in hands if other not in movers and puts_into(gate, other, boxes)]
        movers = more + movers
    return movers


def boxes_read(gate, hands):
    """List the boxes whose numbers can matter to one of these hands."""
    return sorted({step[1] for hand in hands for step in gate.programs[hand] if step[0] == "go" and step[2]})


def puts_into(gate, hand, boxes):
    """Tell whether a hand puts a number in one of these boxes."""
    return any([step[0] == "put" and step[1] in boxes for step in gate.programs[hand]])


def without_unread(gate, hands):
    """Tell the gate in which nothing is put in boxes that none of these hands reads."""
    boxes = boxes_read(gate, hands)
    programs = []
    for knock, steps in gate.hands():
        programs.append((knock, [IDLE if step[0] == "put" and step[1] not in boxes else step for step in steps]))
    return Gate(gate.boxes(), programs)
