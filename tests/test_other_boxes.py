"""Promise 17 (points 7 to 9): boxes in another order, with other numbers one for one, change nothing that is told."""

import random
import unittest

from gatehands.gates import Gate
from gatehands.looking import held_up, hung, shut, two_within
from gatehands.maps import Map
from gatehands.passing import passed
from tests.some_gates import counted, flags, peterson, some_gates, some_state


class Other:
    """The same gate with its boxes in another order, and every number of each box another one."""

    def __init__(self, chance, gate):
        self.mosts = [most for first, most in gate.boxes()]
        self.homes = list(range(len(self.mosts)))
        chance.shuffle(self.homes)
        self.numbers = [list(range(most + 1)) for most in self.mosts]
        for numbers in self.numbers:
            chance.shuffle(numbers)
        boxes = self.held([first for first, most in gate.boxes()])
        mosts = [self.mosts[self.homes.index(box)] for box in range(len(boxes))]
        hands = [(knock, [self.step(step) for step in steps]) for knock, steps in gate.hands()]
        self.gate = Gate(list(zip(boxes, mosts)), hands)

    def held(self, boxes):
        held = [0] * len(boxes)
        for box, number in enumerate(boxes):
            held[self.homes[box]] = self.numbers[box][number]
        return tuple(held)

    def step(self, step):
        if step[0] == "put":
            return ("put", self.homes[step[1]], self.numbers[step[1]][step[2]])
        if step[0] == "go":
            numbers = tuple(sorted(self.numbers[step[1]][number] for number in step[2]))
            return ("go", self.homes[step[1]], numbers, step[3])
        return step

    def state(self, state):
        return self.held(state[0]), state[1]


class OtherBoxes(unittest.TestCase):

    def compare(self, gate, other):
        first, second = Map(gate), Map(other.gate)
        self.assertEqual([other.state(state) for state in first.states()], second.states())
        for number in range(len(first.states())):
            self.assertEqual(first.steps(number), second.steps(number))
            self.assertEqual(first.weaving_to(number), second.weaving_to(number))
        for action in (two_within, shut, hung):
            self.assertEqual(action(gate), action(other.gate))
        for hand in range(gate.many()):
            self.assertEqual(passed(gate, hand)[0], passed(other.gate, hand)[0])
            if passed(gate, hand)[0] == "most":
                self.assertEqual(passed(gate, hand)[1], passed(other.gate, hand)[1])

    def test_ordinary_gates(self):
        chance = random.Random(170)
        for gate in (peterson(), flags(2), flags(3), counted(2), counted(3)):
            for number in range(20):
                self.compare(gate, Other(chance, gate))

    def test_many_gates(self):
        chance = random.Random(171)
        for gate in some_gates(chance, 150):
            self.compare(gate, Other(chance, gate))

    def test_held_up(self):
        chance = random.Random(172)
        for gate in some_gates(chance, 100):
            other = Other(chance, gate)
            for number in range(5):
                state = some_state(chance, gate)
                for hand in range(gate.many()):
                    told = held_up(gate, state, hand)
                    self.assertEqual(told, held_up(other.gate, other.state(state), hand))

    def test_six_boxes(self):
        chance = random.Random(173)
        gate = peterson_with_marks()
        for number in range(20):
            self.compare(gate, Other(chance, gate))


def peterson_with_marks():
    """The gate's own boxes are the last three of six; what the others hold is read by nobody."""
    gate = peterson()
    hands = []
    for hand, (knock, steps) in enumerate(gate.hands()):
        moved = [(step[0], step[1] + 3, *step[2:]) if len(step) > 1 else step for step in steps]
        hands.append((knock, moved + [("put", 0, hand), ("put", 1 + hand, 1)]))
    return Gate([(0, 1), (1, 1), (0, 2)] + gate.boxes(), hands)


if __name__ == "__main__":
    unittest.main()
