"""Gates that several tests use, and what the document says of states and steps, told once more."""

from gatehands.gates import Gate

IN = ("in",)
IDLE = ("go", 0, (), 1)
FAR = (10 ** 9, 10 ** 5000)


def peterson_parts():
    """Never two within; nobody is shut, no hands hang, and a hand that waits is passed over once at most."""
    boxes = [(0, 1), (0, 1), (0, 1)]
    first = (2, [("put", 0, 1), ("put", 2, 1), ("go", 1, (0,), 4), ("go", 2, (1,), 2), IN, ("put", 0, 0)])
    second = (2, [("put", 1, 1), ("put", 2, 0), ("go", 0, (0,), 4), ("go", 2, (0,), 2), IN, ("put", 1, 0)])
    return boxes, [first, second]


def peterson():
    return Gate(*peterson_parts())


def flags(many=2):
    """Each hand puts up its flag, and waits until no other one is up: all of them hang once two are up."""
    hands = []
    for hand in range(many):
        reads = [("go", other, (1,), 1) for other in range(many) if other != hand]
        hands.append((1, [("put", hand, 1), *reads, IN, ("put", hand, 0)]))
    return Gate([(0, 1)] * many, hands)


def unguarded(many=2, knock=1):
    """All hands just go in: they wait on one step if knock is 1, never if it is 2."""
    return Gate([(0, 0)], [(knock, [IDLE, IDLE, IN])] * many)


def one_line(knock=1):
    """One hand that goes in: it waits on two steps if knock is 1, never if it is 3."""
    return Gate([(0, 1)], [(knock, [("put", 0, 1), IDLE, IDLE, IN, ("put", 0, 0)])])


def counted(times):
    """Hand 0 waits for ever; hand 1 comes within so often (0 to 3), and never again."""
    waits = [("go", 1, (), 1), ("go", 1, (0,), 1), IN]
    counts = [
        IDLE, ("go", 0, (3,), 1), IN, ("go", 0, (0,), 7), ("go", 0, (1,), 9), ("put", 0, 3), ("go", 0, (1, 2, 3), 1),
        ("put", 0, 1), ("go", 0, (1,), 1), ("put", 0, 2),
    ]
    return Gate([(3 - times, 3), (0, 1)], [(1, waits), (1, counts)])


def wheels(first):
    """Hands that go round and heed no box: 5000 states, and a state more ahead of them if first is 1."""
    hands = [(1, [("put", 0, 0), IN] + [IDLE] * more) for more in (3, 8, 8, 8)]
    return Gate([(first, 1)], hands)


def stepped(gate, state, hand):
    """The state behind a step, by point 4, without the package."""
    boxes, places = list(state[0]), list(state[1])
    steps = gate.hands()[hand][1]
    step = steps[places[hand]]
    order = list(range(1, len(steps))) + [0]
    behind = order[places[hand]]
    if len(step) == 3:
        boxes[step[1]] = step[2]
    if len(step) == 4 and step[2].count(boxes[step[1]]) > 0:
        behind = step[3]
    places[hand] = behind
    return tuple(boxes), tuple(places)


def first_state(gate):
    return tuple(first for first, most in gate.boxes()), tuple(0 for hand in gate.hands())


def is_within(gate, state, hand):
    return gate.hands()[hand][1][state[1][hand]] == IN


def is_waiting(gate, state, hand):
    knock, steps = gate.hands()[hand]
    return knock <= state[1][hand] < steps.index(IN)


def is_outside(state, hand):
    return state[1][hand] == 0


def weavings(gate, limit=None):
    """All states that weavings come to, each with the weaving by which it is found, as point 6 orders them.

    None if there are more than limit.
    """
    found = {first_state(gate): []}
    queue = [first_state(gate)]
    while queue:
        state = queue.pop(0)
        for hand in range(gate.many()):
            behind = stepped(gate, state, hand)
            if behind not in found:
                found[behind] = found[state] + [hand]
                queue.append(behind)
        if limit is not None and len(found) > limit:
            return None
    return found


def states_from(gate, state, may_step):
    """All states that come of one by weavings in which each step is done by a hand that may."""
    found = {state}
    todo = [state]
    while todo:
        here = todo.pop()
        for hand in range(gate.many()):
            behind = stepped(gate, here, hand)
            if may_step(here, hand) and behind not in found:
                found.add(behind)
                todo.append(behind)
    return found


def some_step(chance, boxes, many):
    box = chance.randrange(len(boxes))
    most = boxes[box][1]
    if chance.random() < 0.4:
        return ("put", box, chance.randint(0, most))
    numbers = tuple(number for number in range(most + 1) if chance.random() < 0.5)
    return ("go", box, numbers, chance.randint(1, many - 1))


def some_hand(chance, boxes, fewest, longest):
    many = chance.randint(fewest, longest)
    steps = [some_step(chance, boxes, many) for number in range(many)]
    place = chance.randint(1, many - 1)
    steps[place] = IN
    return (chance.randint(1, place), steps)


def some_boxes(chance, count, greatest):
    mosts = [chance.randint(0, greatest) for number in range(count)]
    return [(chance.randint(0, most), most) for most in mosts]


def small_gate(chance):
    """Any gate of one to four hands and one to three boxes that has not too many states for a slow look."""
    while True:
        boxes = some_boxes(chance, chance.randint(1, 3), 2)
        many = chance.choice((1, 2, 2, 2, 3, 3, 4))
        gate = Gate(boxes, [some_hand(chance, boxes, 2, 9 - 2 * many + 2) for number in range(many)])
        if weavings(gate, 300) is not None:
            return gate


def near_gate(chance):
    """A gate that keeps some order, with up to two steps of it changed to any."""
    while True:
        gate = chance.choice((peterson(), flags(), counted(chance.randint(0, 3)), flags(3)))
        boxes, hands = gate.boxes(), gate.hands()
        for number in range(chance.randint(0, 2)):
            knock, steps = chance.choice(hands)
            place = chance.randrange(len(steps))
            if steps[place] != IN:
                steps[place] = some_step(chance, boxes, len(steps))
        hands = [(chance.randint(1, steps.index(IN)), steps) for knock, steps in hands]
        gate = Gate(boxes, hands)
        if weavings(gate, 300) is not None:
            return gate


def some_gates(chance, count):
    return [chance.choice((small_gate, near_gate))(chance) for number in range(count)]


def some_state(chance, gate):
    """Any state of the gate's boxes and steps, whether weavings come to it or not."""
    boxes = tuple(chance.randint(0, most) for first, most in gate.boxes())
    return boxes, tuple(chance.randrange(len(steps)) for knock, steps in gate.hands())
