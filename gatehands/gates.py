"""What a gate is: its boxes, and its hands with their programs."""

from gatehands.errors import BadGate

MOST_BOXES = 12
MOST_IN_BOX = 9
MOST_HANDS = 4
FEWEST_STEPS = 2
MOST_STEPS = 24

IN = ("in",)
# Reads, and goes on with the next step whatever the box holds.
IDLE = ("go", 0, (), 1)


class Gate:
    """A gate that can be; it never changes.

    Everything is held in tuples, so that nothing behind the gate can change it:
    the boxes as pairs, and for each hand its program, its knock and the number
    of its ("in",) step.
    """

    def __init__(self, boxes, hands):
        check_boxes(boxes)
        check_hands(boxes, hands)
        self.pairs = tuple(boxes)
        self.programs = tuple([tuple(steps) for knock, steps in hands])
        self.knocks = tuple([knock for knock, steps in hands])
        self.insides = tuple([places_of_in(steps)[0] for knock, steps in hands])

    def boxes(self):
        """List the boxes as they were handed in."""
        return list(self.pairs)

    def hands(self):
        """List the hands as they were handed in."""
        return [(knock, list(steps)) for knock, steps in zip(self.knocks, self.programs)]

    def many(self):
        """Tell how many hands there are."""
        return len(self.programs)


def check_boxes(boxes):
    """Refuse boxes that no gate can have."""
    if not 1 <= len(boxes) <= MOST_BOXES:
        raise BadGate("boxes", 0, 0)
    for number, (first, most) in enumerate(boxes):
        if not 0 <= first <= most <= MOST_IN_BOX:
            raise BadGate("box", 0, number)


def check_hands(boxes, hands):
    """Refuse hands that no gate with these boxes can have."""
    if not 1 <= len(hands) <= MOST_HANDS:
        raise BadGate("hands", 0, 0)
    for number, (knock, steps) in enumerate(hands):
        check_program(boxes, number, steps)
        check_knock(number, knock, steps)


def check_program(boxes, hand, steps):
    """Refuse a program by its count of steps or by its first bad step."""
    if not FEWEST_STEPS <= len(steps) <= MOST_STEPS:
        raise BadGate("steps", hand, 0)
    for number, step in enumerate(steps):
        if not can_be_step(boxes, len(steps), step):
            raise BadGate("step", hand, number)


def check_knock(hand, knock, steps):
    """Refuse a program that is not within just once, or a knock out of place."""
    places = places_of_in(steps)
    if len(places) != 1 or places[0] == 0:
        raise BadGate("in", hand, 0)
    if not 1 <= knock <= places[0]:
        raise BadGate("knock", hand, 0)


def can_be_step(boxes, many, step):
    """Tell whether a program of so many steps over these boxes can have this step."""
    if step[0] == "put":
        return can_be_put(boxes, step[1], step[2])
    if step[0] == "go":
        return can_be_read(boxes, step[1], step[2]) and 1 <= step[3] < many
    return step == IN


def can_be_put(boxes, box, number):
    """Tell whether there is this box and it can hold this number."""
    return 0 <= box < len(boxes) and 0 <= number <= boxes[box][1]


def can_be_read(boxes, box, numbers):
    """Tell whether there is this box, and the numbers rise and fit into it."""
    if not 0 <= box < len(boxes):
        return False
    last = -1
    for number in numbers:
        if not last < number <= boxes[box][1]:
            return False
        last = number
    return True


def places_of_in(steps):
    """List the numbers of the steps at which a hand is within."""
    return [number for number, step in enumerate(steps) if step == IN]
