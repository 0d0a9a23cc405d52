"""Promise 20 (point 1): what is told is told again the same, whatever is told or done between."""

import copy
import random
import unittest

from gatehands.building import bits, pair, tower
from gatehands.errors import GateError
from gatehands.fewer import breaker, tries
from gatehands.gates import Gate
from gatehands.looking import held_up, hung, shut, two_within
from gatehands.maps import Map
from gatehands.notes import read, written
from gatehands.papers import fault, paper
from gatehands.passing import passed
from gatehands.walking import begin, done, outside, played, waiting, within
from tests.some_gates import counted, flags, one_line, peterson, small_gate, some_gates, some_state, unguarded, wheels


def told(action, *arguments):
    """What an action gives back, or the refusal that it raises."""
    try:
        return action(*arguments)
    except GateError as error:
        return error


def shown(answer):
    """An answer as a text that holds all of it, kinds of values too."""
    if isinstance(answer, GateError):
        return repr((type(answer).__name__, vars(answer)))
    if isinstance(answer, Gate):
        return repr((answer.boxes(), answer.hands(), answer.many()))
    return repr(answer)


def spoil(answer):
    """Change all that can be changed in an answer."""
    if isinstance(answer, GateError):
        answer = list(vars(answer).values())
    if isinstance(answer, Gate):
        answer = [answer.boxes(), answer.hands()]
    if isinstance(answer, (list, tuple)):
        for part in answer:
            spoil(part)
    if isinstance(answer, list):
        answer.append(99)
        answer.reverse()


def questions(gate, state, weaving, rooms):
    """All that can be asked of a gate: actions with their arguments."""
    asked = [(action, gate) for action in (
        gate.__class__.boxes, gate.__class__.hands, gate.__class__.many, begin, two_within, shut, hung, paper, breaker,
        written,
    )]
    asked += [(action, gate, state) for action in (within, waiting, outside)]
    asked += [(action, gate, state, hand) for action in (done, held_up) for hand in range(-1, gate.many() + 1)]
    asked += [(passed, gate, hand) for hand in range(-1, gate.many() + 1)]
    asked += [(played, gate, weaving), (played, gate, weaving + [9]), (fault, gate, rooms), (fault, gate, [])]
    asked += [(read, written(gate)), (read, written(gate) + "\n")]
    return asked


def questions_of_maps(drawn):
    asked = [(drawn.states,)]
    for number in range(len(drawn.states())):
        asked += [(drawn.steps, number), (drawn.weaving_to, number)]
    return asked


def questions_of_none():
    """All that is asked without a gate."""
    return [
        (pair,), (tower,), *[(bits, many) for many in range(1, 6)], (tries, 1, 2, 1), (tries, 1, 7, 0), (tries, 1, -1, 0),
        (Gate, [], []), (Gate, [(1, 0)], []), (read, ""), (read, "box 0 0"),
    ]


def some_rooms(chance, gate):
    rooms = told(paper, gate)
    if isinstance(rooms, GateError) or chance.random() < 0.3:
        return [tuple(tuple((number,) for number in part) for part in some_state(chance, gate))]
    return rooms


class Again(unittest.TestCase):

    def all_questions(self, chance, gates):
        asked = questions_of_none()
        for gate in gates:
            weaving = [chance.randrange(gate.many()) for number in range(12)]
            asked += questions(gate, some_state(chance, gate), weaving, some_rooms(chance, gate))
            drawn = told(Map, gate)
            if isinstance(drawn, Map):
                asked += questions_of_maps(drawn)
        return asked

    def test_the_same_again_in_any_order_whatever_is_done_with_it(self):
        chance = random.Random(200)
        gates = [peterson(), flags(2), flags(3), counted(2), one_line(), unguarded(2), unguarded(3, knock=2)]
        gates += [pair(), bits(2)] + some_gates(chance, 30)
        gates += [Gate([(0, 1)], [(1, [("put", 0, 1), ("in",)])] * 2)]
        asked = self.all_questions(chance, gates)
        answers = [shown(told(*question)) for question in asked]
        for number in range(2):
            order = list(range(len(asked)))
            chance.shuffle(order)
            for at in order:
                answer = told(*asked[at])
                self.assertEqual(shown(answer), answers[at])
                spoil(answer)

    def test_refusals_leave_nothing_behind(self):
        gate = peterson()
        ahead = [shown(told(*question)) for question in questions(gate, begin(gate), [0, 1], [])]
        for large in (wheels(1), wheels(0), bits(4)):
            for action in (Map, two_within, shut, hung, paper, breaker):
                told(action, large)
        self.assertEqual([shown(told(*question)) for question in questions(gate, begin(gate), [0, 1], [])], ahead)

    def test_what_is_handed_in_stays_as_it_is(self):
        chance = random.Random(201)
        for gate in [pair(), unguarded(2), flags(3)] + some_gates(chance, 20):
            boxes, hands = gate.boxes(), gate.hands()
            state = some_state(chance, gate)
            weaving = [chance.randrange(gate.many()) for number in range(12)]
            rooms = some_rooms(chance, gate)
            ahead = copy.deepcopy((boxes, hands, state, weaving, rooms))
            made = Gate(boxes, hands)
            for question in questions(made, state, weaving, rooms):
                spoil(told(*question))
            self.assertEqual((boxes, hands, state, weaving, rooms), ahead)

    def test_what_is_handed_in_is_not_kept(self):
        chance = random.Random(202)
        for number in range(20):
            gate = small_gate(chance)
            boxes, hands = gate.boxes(), gate.hands()
            made = Gate(boxes, hands)
            drawn = Map(made)
            state = some_state(chance, gate)
            spoil(boxes)
            spoil(hands)
            for at, question in enumerate(questions(gate, state, [0, 0], [])):
                other = questions(made, state, [0, 0], [])[at]
                self.assertEqual(shown(told(*other)), shown(told(*question)))
            self.assertEqual(drawn.states(), Map(gate).states())


if __name__ == "__main__":
    unittest.main()
