"""Promise 16 (point 14): the gates that are built, over all their states, by a look of the test's own."""

import unittest

from gatehands.building import bits, pair, tower
from gatehands.errors import GateError, OtherGate, TooMany
from gatehands.gates import Gate
from gatehands.looking import hung, shut, two_within
from gatehands.maps import Map
from gatehands.papers import fault, paper
from gatehands.passing import passed
from tests.some_gates import FAR, first_state, flags, is_outside, is_waiting, is_within, stepped, unguarded


def built():
    return [pair(), bits(2), bits(3), bits(4), tower()]


class Drawn:
    """All states of a gate, however many, and the steps between them, told without the package's map."""

    def __init__(self, gate):
        self.gate = gate
        self.hands = list(range(gate.many()))
        self.behind = {}
        todo = [first_state(gate)]
        while todo:
            state = todo.pop()
            if state not in self.behind:
                self.behind[state] = [stepped(gate, state, hand) for hand in self.hands]
                todo.extend(self.behind[state])

    def leading_within(self, hand, may_step):
        """The states from which this hand can come within by steps of hands that may."""
        ahead = {}
        for state, row in self.behind.items():
            for mover, other in enumerate(row):
                if may_step(state, mover):
                    ahead.setdefault(other, []).append(state)
        todo = [state for state in self.behind if is_within(self.gate, state, hand)]
        leads = set(todo)
        while todo:
            for state in ahead.get(todo.pop(), []):
                if state not in leads:
                    leads.add(state)
                    todo.append(state)
        return leads

    def has_two(self):
        return any(sum(is_within(self.gate, state, hand) for hand in self.hands) > 1 for state in self.behind)

    def has_shut(self):
        for hand in self.hands:
            leads = self.leading_within(hand, lambda state, mover: mover == hand)
            others = [other for other in self.hands if other != hand]
            for state in self.behind:
                if all(is_outside(state, other) for other in others) and state not in leads:
                    return True
        return False

    def has_hung(self):
        leads = [self.leading_within(hand, lambda state, mover: not is_outside(state, mover)) for hand in self.hands]
        for state in self.behind:
            waits = [hand for hand in self.hands if is_waiting(self.gate, state, hand)]
            if waits and not any(state in leads[hand] for hand in waits):
                return True
        return False

    def most_passed(self, hand, limit):
        """How often others come within while a hand waits, counted up to a limit."""
        waits = {state for state in self.behind if is_waiting(self.gate, state, hand)}
        seen = {(state, 0) for state in waits}
        todo = list(seen)
        while todo:
            state, count = todo.pop()
            for mover, other in enumerate(self.behind[state]):
                came = mover != hand and is_within(self.gate, other, mover)
                node = (other, min(count + came, limit))
                if other in waits and node not in seen:
                    seen.add(node)
                    todo.append(node)
        return max(count for state, count in seen)


class Built(unittest.TestCase):

    def test_what_the_looks_of_this_test_tell_of_other_gates(self):
        self.assertTrue(Drawn(unguarded(2)).has_two())
        self.assertTrue(Drawn(flags(3)).has_hung())
        self.assertTrue(Drawn(Gate([(0, 0)], [(1, [("put", 0, 0), ("go", 0, (0,), 1), ("in",)])])).has_shut())
        self.assertEqual(Drawn(flags(3)).most_passed(0, 2), 1)
        self.assertEqual(Drawn(unguarded(2)).most_passed(0, 5), 5)

    def test_counts_of_hands_and_boxes(self):
        for gate in built():
            self.assertIs(type(gate), Gate)
        self.assertEqual([gate.many() for gate in built()], [2, 2, 3, 4, 3])
        self.assertEqual([len(gate.boxes()) for gate in built()], [3, 2, 3, 4, 6])
        for many in (2, 3, 4):
            self.assertEqual(bits(many).boxes(), [(0, 1)] * many)

    def test_never_two_nobody_shut_no_hands_that_hang(self):
        for gate in built():
            drawn = Drawn(gate)
            self.assertFalse(drawn.has_two())
            self.assertFalse(drawn.has_shut())
            self.assertFalse(drawn.has_hung())

    def test_the_looks_of_the_package_tell_the_same(self):
        for gate in (pair(), bits(2), bits(3), tower()):
            self.assertEqual([two_within(gate), shut(gate), hung(gate)], [None, None, None])
            self.assertIsNone(fault(gate, paper(gate)))

    def test_all_hands_wait_on_their_way_and_come_within(self):
        for gate in built():
            states = list(Drawn(gate).behind)
            for hand, (knock, steps) in enumerate(gate.hands()):
                self.assertEqual(knock, 1)
                places = {state[1][hand] for state in states}
                self.assertEqual(places, set(range(len(steps))))

    def test_by_pair_a_hand_is_passed_over_once_at_most(self):
        drawn = Drawn(pair())
        for hand in (0, 1):
            self.assertLessEqual(drawn.most_passed(hand, 3), 1)
            word, many, weaving = passed(pair(), hand)
            self.assertEqual(word, "most")
            self.assertLessEqual(many, 1)

    def test_all_but_bits_of_four_come_to_no_more_than_5000_states(self):
        for gate in (pair(), bits(2), bits(3), tower()):
            self.assertLessEqual(len(Drawn(gate).behind), 5000)
            self.assertEqual(len(Map(gate).states()), len(Drawn(gate).behind))
        self.assertGreater(len(Drawn(bits(4)).behind), 5000)
        with self.assertRaises(TooMany):
            Map(bits(4))

    def test_bits_of_other_counts(self):
        for many in (1, 5, 0, -1, -2, -4, 6, 12, *FAR, -FAR[0], -FAR[1]):
            with self.assertRaises(GateError) as caught:
                bits(many)
            self.assertIs(type(caught.exception), OtherGate)

    def test_the_same_gate_again(self):
        for first, second in zip(built(), built()):
            first.boxes().clear()
            first.hands()[0][1].clear()
            self.assertEqual((first.boxes(), first.hands()), (second.boxes(), second.hands()))


if __name__ == "__main__":
    unittest.main()
