"""Promise 10 (point 9): how often others can come within while a hand waits."""

import random
import unittest

from gatehands.errors import GateError, NoHand
from gatehands.gates import Gate
from gatehands.passing import passed
from tests.some_gates import (
    FAR, IDLE, IN, counted, first_state, flags, is_waiting, is_within, one_line, peterson, some_gates, stepped,
    unguarded, weavings,
)


def spinning():
    """Hand 0 waits while a sign is up, which hand 1 puts up again and again."""
    return Gate([(0, 1)], [(1, [IDLE, ("go", 0, (1,), 1), IN]), (1, [("put", 0, 1), IN, ("put", 0, 0)])])


def late_ring():
    """Hand 1 puts up a sign by which hand 0 begins to wait, goes on, and goes round from step 3 on for ever."""
    waits = (2, [IDLE, ("go", 0, (0,), 1), ("go", 0, (1,), 2), IN])
    return Gate([(0, 1)], [waits, (1, [IDLE, ("put", 0, 1), IDLE, IDLE, IN, ("go", 0, (1,), 3)])])


def one_by_one(many):
    """Each other hand comes within once, and then never goes on; hand 0 waits for ever."""
    boxes = [(0, 1)] * many
    hands = [(1, [IDLE, ("go", 0, (0,), 1), IN])]
    for hand in range(1, many):
        hands.append((1, [IDLE, IN, ("put", hand, 1), ("go", hand, (1,), 3)]))
    return Gate(boxes, hands)


def last_states(gate, weaving, hand):
    """The states behind the last step on which the hand does not wait, and who led from each to the next."""
    states = [first_state(gate)]
    for mover in weaving:
        states.append(stepped(gate, states[-1], mover))
    at = len(states)
    while at > 0 and is_waiting(gate, states[at - 1], hand):
        at -= 1
    return states[at:], list(weaving[at:])


def times_passed(gate, states, movers):
    return sum(is_within(gate, behind, mover) for behind, mover in zip(states[1:], movers))


def steps_that_wait(gate, states, hand):
    """For each state in which the hand waits: the states behind, in which it waits, and 1 where another came within."""
    steps = {}
    for state in states:
        if is_waiting(gate, state, hand):
            behind = [(stepped(gate, state, mover), mover) for mover in range(gate.many())]
            steps[state] = [
                (other, int(mover != hand and is_within(gate, other, mover)))
                for other, mover in behind if is_waiting(gate, other, hand)
            ]
    return steps


def most_told(gate, hand):
    """The greatest count, by counts that rise until none does; None where they rise beyond the count of states."""
    steps = steps_that_wait(gate, weavings(gate), hand)
    counts = {state: 0 for state in steps}
    rising = True
    while rising:
        rising = False
        for state, row in steps.items():
            best = max([came + counts[behind] for behind, came in row], default=0)
            if best > counts[state]:
                counts[state], rising = best, True
            if best > len(steps):
                return None
    return max(counts.values(), default=0)


def length_of_shortest(gate, hand, most):
    """How many steps a weaving needs at least in whose last states others come within so often."""
    start = (first_state(gate), 0)
    found = {start: 0}
    queue = [start]
    for state, count in queue:
        if count == most and is_waiting(gate, state, hand):
            return found[(state, count)]
        for mover in range(gate.many()):
            behind = stepped(gate, state, mover)
            came = mover != hand and is_within(gate, behind, mover)
            waits = is_waiting(gate, state, hand) and is_waiting(gate, behind, hand)
            node = (behind, count + came if waits else 0)
            if node not in found:
                found[node] = found[(state, count)] + 1
                queue.append(node)
    return None


class PassingTest(unittest.TestCase):

    def most(self, gate, hand, many):
        """Compares what is told with the count, and goes through the weaving that is told."""
        before = gate.boxes(), gate.hands()
        told = passed(gate, hand)
        self.assertIs(type(told), tuple)
        word, count, weaving = told
        self.assertEqual((word, count, type(count), type(weaving)), ("most", many, int, list))
        if many:
            self.assertEqual(times_passed(gate, *last_states(gate, weaving, hand)), many)
            self.assertEqual(len(weaving), length_of_shortest(gate, hand, many))
        self.assertEqual((gate.boxes(), gate.hands()), before)

    def endless(self, gate, hand):
        """Goes through the weaving and the ring that are told; returns them."""
        told = passed(gate, hand)
        self.assertIs(type(told), tuple)
        word, weaving, ring = told
        self.assertEqual((word, type(weaving), type(ring)), ("endless", list, list))
        states, movers = last_states(gate, weaving, hand)
        self.assertTrue(states)
        round_states, round_movers = last_states(gate, weaving + ring, hand)
        self.assertEqual(round_states[:len(states)], states)
        self.assertEqual(round_movers[len(movers):], ring)
        self.assertEqual(round_states[-1], states[-1])
        self.assertGreater(times_passed(gate, round_states[len(states) - 1:], ring), 0)
        return weaving, ring


class Never(PassingTest):

    def test_one_hand(self):
        for gate in (one_line(), one_line(knock=3), unguarded(1)):
            self.most(gate, 0, 0)

    def test_a_hand_that_never_waits(self):
        for gate in (unguarded(2, knock=2), unguarded(4, knock=2)):
            for hand in range(gate.many()):
                self.most(gate, hand, 0)

    def test_a_hand_that_does_not_come_to_its_waiting_steps(self):
        gate = Gate([(0, 1)], [(3, [IDLE, ("go", 0, (0,), 1), IDLE, IDLE, IN]), (1, [IDLE, IN])])
        self.most(gate, 0, 0)

    def test_nobody_comes_within_while_it_waits(self):
        stuck = (1, [IDLE, ("go", 0, (0, 1), 1), IN])
        gate = Gate([(0, 1)], [stuck, stuck])
        self.most(gate, 0, 0)
        self.most(gate, 1, 0)
        self.most(counted(0), 0, 0)
        self.most(counted(3), 1, 0)

    def test_one_that_is_within_already_does_not_come_within(self):
        # Hand 0 begins to wait only where hand 1 has put 1 in the box, and this leads hand 1 within at once.
        waits = (2, [IDLE, ("go", 0, (0,), 1), ("go", 0, (0, 1), 2), IN])
        gate = Gate([(0, 1)], [waits, (1, [IDLE, ("put", 0, 1), IN, ("go", 0, (1,), 3)])])
        self.most(gate, 0, 0)
        gate = Gate([(0, 1)], [waits, (1, [IDLE, ("put", 0, 1), IDLE, IN, ("go", 0, (1,), 4)])])
        self.most(gate, 0, 1)


class SoOften(PassingTest):

    def test_once(self):
        self.assertEqual(passed(peterson(), 0), ("most", 1, [0, 1, 1, 0, 1, 1]))
        for hand in range(2):
            self.most(peterson(), hand, 1)

    def test_two_and_three_times(self):
        for times in range(4):
            self.most(counted(times), 0, times)

    def test_flags(self):
        # Others come within past a flag that they have read ahead of its being put up.
        for many, counts in ((2, (0, 0)), (3, (1, 1, 0)), (4, (2, 2, 1, 0))):
            for hand, most in enumerate(counts):
                self.most(flags(many), hand, most)
        self.assertEqual(passed(flags(3), 0), ("most", 1, [1, 1, 0, 1]))

    def test_by_several_others(self):
        for many in (2, 3, 4):
            self.most(one_by_one(many), 0, many - 1)

    def test_no_more_than_while_it_waits_all_along(self):
        # Hand 1 takes the sign down and comes within; hand 0 puts it up again, but does not wait then.
        waits = (2, [IDLE, ("put", 0, 1), ("go", 1, (0,), 1), IN])
        gate = Gate([(0, 1), (0, 1)], [waits, (1, [IDLE, ("go", 0, (0,), 1), ("put", 0, 0), IN])])
        self.most(gate, 0, 1)

    def test_its_own_steps_are_not_counted(self):
        gate = Gate([(0, 1)], [(1, [IDLE, ("go", 0, (1,), 1), IN])] * 2)
        for hand in range(2):
            self.assertIsNone(most_told(gate, hand))
            self.endless(gate, hand)
        gate = Gate([(0, 1)], [(1, [IDLE, IDLE, IN]), (1, [IDLE, IN, ("put", 0, 1), ("go", 0, (1,), 3)])])
        self.most(gate, 0, 1)
        self.most(gate, 1, 0)


class WithoutEnd(PassingTest):

    def test_by_a_hand_that_comes_again_and_again(self):
        self.assertEqual(self.endless(spinning(), 0), ([0], [1, 1, 1]))

    def test_by_hands_that_just_go_in(self):
        for many in (2, 3, 4):
            for hand in range(many):
                self.endless(unguarded(many), hand)

    def test_a_ring_that_does_not_begin_where_the_hand_begins_to_wait(self):
        weaving, ring = self.endless(late_ring(), 0)
        self.assertEqual((weaving, ring), ([0, 1, 1, 0, 1], [1, 1, 1]))

    def test_a_ring_by_steps_of_the_hand_too(self):
        # Hand 0 takes the sign down itself, each time that it looks.
        waits = (1, [IDLE, ("put", 0, 0), ("go", 1, (0,), 1), IN])
        gate = Gate([(0, 1), (0, 1)], [waits, (1, [IDLE, ("go", 0, (1,), 1), ("put", 0, 1), IN])])
        weaving, ring = self.endless(gate, 0)
        self.assertEqual(set(ring), {0, 1})

    def test_rings_on_which_nobody_comes_within_are_none(self):
        # Both hands go round for ever while hand 0 waits, hand 1 within once ahead of that.
        gate = Gate([(0, 1)], [
            (1, [IDLE, ("go", 0, (0, 1), 1), IN]),
            (1, [IDLE, IN, ("put", 0, 1), ("go", 0, (1,), 4), ("go", 0, (1,), 3)]),
        ])
        self.most(gate, 0, 1)


class AnyGates(PassingTest):

    def test_many_gates(self):
        seen = {}
        for gate in some_gates(random.Random(90), 400):
            for hand in range(gate.many()):
                many = most_told(gate, hand)
                seen[many] = seen.get(many, 0) + 1
                if many is None:
                    self.endless(gate, hand)
                else:
                    self.most(gate, hand, many)
        self.assertLessEqual({None, 0, 1, 2, 3}, set(seen))

    def test_no_hand(self):
        for gate in (one_line(), peterson(), flags(4)):
            many = gate.many()
            for hand in (-many - 1, -many, -1, many, many + 1, 99, FAR[0], -FAR[0], FAR[1], -FAR[1]):
                with self.assertRaises(GateError) as caught:
                    passed(gate, hand)
                self.assertIs(type(caught.exception), NoHand)

    def test_what_is_given_back_may_be_changed(self):
        for gate in (peterson(), spinning(), one_line()):
            first, second = passed(gate, 0), passed(gate, 0)
            for part in first:
                if isinstance(part, list):
                    part.append(9)
            self.assertEqual(passed(gate, 0), second)


if __name__ == "__main__":
    unittest.main()
