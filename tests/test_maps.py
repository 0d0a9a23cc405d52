"""Promise 4 (point 6): all states that weavings come to; and TooMany, where there are more than 5000."""

import random
import unittest

from gatehands.errors import GateError, NoHand, TooMany
from gatehands.gates import Gate
from gatehands.looking import held_up, hung, shut, two_within
from gatehands.maps import Map
from gatehands.passing import passed
from gatehands.walking import begin, played
from tests.some_gates import FAR, IDLE, IN, flags, one_line, peterson, some_gates, stepped, unguarded, weavings, wheels


class MapTest(unittest.TestCase):

    def whole(self, gate):
        """Compares a map with all that point 6 says of it."""
        before = gate.boxes(), gate.hands()
        drawn = Map(gate)
        found = weavings(gate)
        states = drawn.states()
        self.assertEqual(states, list(found))
        for number, state in enumerate(states):
            behind = [stepped(gate, state, hand) for hand in range(gate.many())]
            self.assertEqual([states[other] for other in drawn.steps(number)], behind)
            self.assertEqual(drawn.weaving_to(number), found[state])
            self.assertEqual(played(gate, drawn.weaving_to(number))[-1], state)
        self.assertEqual((gate.boxes(), gate.hands()), before)
        return drawn

    def too_many(self, action, *told):
        with self.assertRaises(GateError) as caught:
            action(*told)
        self.assertIs(type(caught.exception), TooMany)


class Maps(MapTest):

    def test_one_hand_in_a_line(self):
        drawn = Map(one_line())
        self.assertEqual(drawn.states(), [((0,), (0,)), ((1,), (1,)), ((1,), (2,)), ((1,), (3,)), ((1,), (4,))])
        self.assertEqual([drawn.steps(number) for number in range(5)], [[1], [2], [3], [4], [0]])
        self.assertEqual([drawn.weaving_to(number) for number in range(5)], [[0] * number for number in range(5)])

    def test_two_hands(self):
        gate = Gate([(0, 2)], [(1, [("put", 0, 1), IN]), (1, [("go", 0, (1,), 2), ("put", 0, 2), IN])])
        drawn = Map(gate)
        self.assertEqual(drawn.states(), [
            ((0,), (0, 0)),
            ((1,), (1, 0)), ((0,), (0, 1)),
            ((1,), (0, 0)), ((1,), (1, 2)),
            ((1,), (1, 1)), ((2,), (0, 2)),
            ((1,), (0, 2)),
            ((1,), (0, 1)), ((2,), (1, 2)), ((2,), (0, 0)),
            ((2,), (1, 0)), ((2,), (0, 1)),
            ((2,), (1, 1)),
        ])
        self.assertEqual([drawn.steps(number) for number in range(8)], [
            [1, 2], [3, 4], [5, 6], [1, 7], [7, 1], [8, 9], [4, 10], [4, 3],
        ])
        self.assertEqual([drawn.weaving_to(number) for number in range(8)], [
            [], [0], [1], [0, 0], [0, 1], [1, 0], [1, 1], [0, 0, 1],
        ])
        self.whole(gate)

    def test_the_first_state_has_number_0(self):
        for gate in (one_line(), peterson(), flags(4), unguarded(3)):
            drawn = Map(gate)
            self.assertEqual(drawn.states()[0], begin(gate))
            self.assertEqual(drawn.weaving_to(0), [])

    def test_some_ordinary_gates(self):
        for gate in (peterson(), flags(2), flags(3), unguarded(1), unguarded(2), unguarded(4), one_line(knock=3)):
            self.whole(gate)

    def test_states_that_no_weaving_comes_to_are_not_in_it(self):
        gate = Gate([(0, 1)], [(1, [("go", 0, (1,), 1), IN, ("go", 0, (0,), 1)])])
        self.assertEqual(self.whole(gate).states(), [((0,), (0,)), ((0,), (1,)), ((0,), (2,))])

    def test_six_boxes(self):
        steps = [("put", box, 1) for box in range(6)] + [IN] + [("go", 5 - box, (1,), 8 + box) for box in range(6)]
        gate = Gate([(0, 1)] * 6, [(2, steps + [("put", 0, 0)]), (1, [("go", 5, (0,), 2), ("put", 5, 0), IN])])
        self.assertGreater(len(self.whole(gate).states()), 30)

    def test_many_gates(self):
        chance = random.Random(60)
        for gate in some_gates(chance, 150):
            self.whole(gate)

    def test_what_is_given_back_may_be_changed(self):
        gate = peterson()
        drawn, other = Map(gate), Map(gate)
        for number in range(len(other.states())):
            drawn.states().clear()
            drawn.steps(number).append(7)
            drawn.weaving_to(number).append(7)
            self.assertEqual(drawn.steps(number), other.steps(number))
            self.assertEqual(drawn.weaving_to(number), other.weaving_to(number))
        self.assertEqual(drawn.states(), other.states())

    def test_two_maps_stand_apart(self):
        first, second = Map(one_line()), Map(unguarded(2))
        self.assertEqual((len(first.states()), len(second.states())), (5, 9))
        self.assertEqual(first.steps(4), [0])


class HowManyStates(MapTest):

    def test_just_5000_states(self):
        drawn = Map(wheels(0))
        self.assertEqual(len(drawn.states()), 5000)
        self.assertEqual(len(set(drawn.states())), 5000)

    def test_all_that_looks_at_all_states_looks_at_5000(self):
        gate = wheels(0)
        self.assertEqual(two_within(gate), [0, 1])
        self.assertIsNone(shut(gate))
        self.assertIsNone(hung(gate))
        self.assertEqual(passed(gate, 3), ("most", 0, []))

    def test_one_state_more(self):
        self.assertEqual(len(weavings_of_wheels()), 5001)
        self.too_many(Map, wheels(1))

    def test_all_that_looks_at_all_states_refuses_one_state_more(self):
        for action in (two_within, shut, hung):
            self.too_many(action, wheels(1))
        for hand in range(4):
            self.too_many(passed, wheels(1), hand)

    def test_far_more_states(self):
        gate = Gate([(0, 9)] * 6, [(1, [("put", hand, 9), IN] + [IDLE] * 22) for hand in range(4)])
        for action in (Map, two_within, shut, hung):
            self.too_many(action, gate)
        self.too_many(passed, gate, 0)

    def test_no_hand_ahead_of_too_many(self):
        for hand in (-5, -4, -1, 4, 5, 99, FAR[0], -FAR[0], FAR[1], -FAR[1]):
            with self.assertRaises(NoHand):
                passed(wheels(1), hand)
            with self.assertRaises(NoHand):
                held_up(wheels(1), begin(wheels(1)), hand)

    def test_held_up_does_not_refuse_too_many(self):
        for gate in (wheels(0), wheels(1)):
            for hand in range(4):
                self.assertEqual(held_up(gate, begin(gate), hand), [])


def weavings_of_wheels():
    """All states of the wheels that begin with one state more; searched without the weavings, which would be long."""
    gate = wheels(1)
    found = {begin(gate): True}
    todo = [begin(gate)]
    while todo:
        state = todo.pop()
        for hand in range(4):
            behind = stepped(gate, state, hand)
            if behind not in found:
                found[behind] = True
                todo.append(behind)
    return found


if __name__ == "__main__":
    unittest.main()
