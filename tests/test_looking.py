"""Promises 6 to 9 (points 7 and 8): two within, one shut, hands that hang, and hands that are held up."""

import random
import unittest

from gatehands.errors import GateError, NoHand, TooMany
from gatehands.gates import Gate
from gatehands.looking import held_up, hung, shut, two_within
from gatehands.maps import Map
from gatehands.walking import begin, done, played, waiting
from tests.some_gates import (
    FAR, IDLE, IN, counted, flags, is_outside, is_waiting, is_within, one_line, peterson, some_gates, some_state,
    states_from, unguarded, weavings,
)

STUCK = ("go", 0, (0, 1), 1)


def late_flags():
    """Each hand looks at one box before it puts its own sign there: too late."""
    program = [IDLE, ("go", 0, (1,), 1), ("put", 0, 1), IN, ("put", 0, 0)]
    return Gate([(0, 1)], [(1, program), (1, program)])


def left_up():
    """Hand 0 never takes its sign down, for which hand 1 waits."""
    return Gate([(0, 1)], [(1, [("put", 0, 1), IN]), (1, [IDLE, ("go", 0, (1,), 1), IN])])


def blocked(count=1, at=0):
    """Of so many hands one never comes within; the others just go in, and never wait."""
    hands = [(2, [IDLE, IDLE, IN]) for hand in range(count)]
    hands[at] = (1, [IDLE, STUCK, IN])
    return Gate([(0, 1)], hands)


def stuck_behind():
    """A hand that comes within, and then never again."""
    return Gate([(0, 1)], [(1, [("put", 0, 1), IN, ("go", 0, (1,), 2)])])


def helped_from_outside():
    """Hand 0 waits where the box holds 2, until hand 1 puts 1 there, by its step 0."""
    waits = [IDLE, ("go", 0, (0,), 1), ("go", 0, (2,), 2), IN]
    return Gate([(0, 2)], [(2, waits), (1, [("put", 0, 1), IN, ("put", 0, 2), IDLE])])


def helped():
    """Hand 0 waits for the 1 that hand 1 puts in the box by its step 0, and hand 2 by its step 1."""
    return Gate([(0, 1)], [
        (1, [IDLE, ("go", 0, (0,), 1), IN]),
        (1, [("put", 0, 1), IN, ("put", 0, 0)]),
        (2, [IDLE, ("put", 0, 1), IN, ("put", 0, 0)]),
    ])


def two_within_told(gate):
    for state, weaving in weavings(gate).items():
        if sum(is_within(gate, state, hand) for hand in range(gate.many())) > 1:
            return weaving
    return None


def shut_told(gate):
    for state, weaving in weavings(gate).items():
        for hand in range(gate.many()):
            others = [other for other in range(gate.many()) if other != hand]
            if all(is_outside(state, other) for other in others):
                alone = states_from(gate, state, lambda here, mover: mover == hand)
                if not any(is_within(gate, here, hand) for here in alone):
                    return weaving, hand
    return None


def hung_told(gate):
    for state, weaving in weavings(gate).items():
        waits = [hand for hand in range(gate.many()) if is_waiting(gate, state, hand)]
        behind = states_from(gate, state, lambda here, mover: not is_outside(here, mover))
        if waits and not any(is_within(gate, here, hand) for here in behind for hand in waits):
            return weaving, waits
    return None


def held_up_told(gate, state, hand):
    waits = [other for other in range(gate.many()) if other != hand and is_waiting(gate, state, other)]
    behind = states_from(gate, state, lambda here, mover: mover != hand)
    return [other for other in waits if not any(is_within(gate, here, other) for here in behind)]


class TwoWithin(unittest.TestCase):

    def test_two_hands_that_just_go_in(self):
        self.assertEqual(two_within(unguarded(2)), [0, 0, 1, 1])

    def test_the_least_number_of_three_and_four_hands(self):
        self.assertEqual(two_within(unguarded(3)), [0, 0, 1, 1])
        self.assertEqual(two_within(unguarded(4)), [0, 0, 1, 1])

    def test_hands_that_look_too_late(self):
        self.assertEqual(two_within(late_flags()), [0, 0, 1, 1, 0, 1])

    def test_hands_beside_one_that_never_is_within(self):
        self.assertEqual(two_within(blocked(3, at=0)), [1, 1, 2, 2])
        self.assertEqual(two_within(blocked(3, at=1)), [0, 0, 2, 2])
        self.assertIsNone(two_within(blocked(2)))

    def test_a_weaving_that_a_shorter_look_would_miss(self):
        slow = (1, [("put", 0, 1)] + [IDLE] * 22 + [IN])
        gate = Gate([(0, 1)], [slow, (1, [IDLE, IN])])
        self.assertEqual(two_within(gate), [0] * 23 + [1])

    def test_never_two(self):
        for gate in (peterson(), flags(2), flags(3), counted(3)):
            self.assertIsNone(two_within(gate))

    def test_one_hand(self):
        self.assertIsNone(two_within(one_line()))
        self.assertIsNone(two_within(blocked()))

    def test_many_gates(self):
        for gate in some_gates(random.Random(71), 250):
            self.assertEqual(two_within(gate), two_within_told(gate))

    def test_what_is_given_back_may_be_changed(self):
        gate = unguarded(2)
        two_within(gate).clear()
        self.assertEqual(two_within(gate), [0, 0, 1, 1])


class Shut(unittest.TestCase):

    def test_nobody(self):
        for gate in (peterson(), flags(2), flags(4), late_flags(), unguarded(3), one_line()):
            self.assertIsNone(shut(gate))

    def test_from_the_first_state_on(self):
        self.assertEqual(shut(blocked()), ([], 0))
        self.assertEqual(shut(blocked(2, at=1)), ([], 1))
        self.assertEqual(shut(blocked(4, at=2)), ([], 2))

    def test_the_least_hand(self):
        stuck = (1, [IDLE, STUCK, IN])
        self.assertEqual(shut(Gate([(0, 1)], [stuck, stuck])), ([], 0))
        self.assertEqual(shut(Gate([(0, 1)], [(1, [IDLE, IN]), stuck, stuck])), ([], 1))

    def test_later_on(self):
        self.assertEqual(shut(left_up()), ([0, 0], 1))

    def test_one_that_others_could_help_is_shut(self):
        self.assertEqual(shut(helped()), ([], 0))

    def test_not_while_another_is_not_outside(self):
        # Hand 1 is shut while hand 0 is within, but that is no harm: hand 0 takes the sign down behind it.
        gate = Gate([(0, 1)], [(1, [("put", 0, 1), IN, ("put", 0, 0)]), (1, [IDLE, ("go", 0, (1,), 1), IN])])
        self.assertIsNone(shut(gate))

    def test_not_where_only_some_others_are_outside(self):
        signs = (1, [("put", 0, 1), IN, ("put", 0, 0)])
        gate = Gate([(0, 1)], [signs, (1, [IDLE, IN]), (1, [IDLE, ("go", 0, (1,), 1), IN])])
        self.assertIsNone(shut(gate))

    def test_one_that_is_within_is_within(self):
        self.assertEqual(shut(stuck_behind()), ([0, 0], 0))

    def test_one_that_waits_may_be_shut(self):
        gate = Gate([(0, 1)], [(1, [("go", 0, (0,), 2), IN, ("put", 0, 1), ("go", 0, (1,), 3)])])
        self.assertEqual(shut(gate), ([], 0))
        gate = Gate([(0, 1)], [(2, [IDLE, ("put", 0, 1), ("go", 0, (1,), 2), IN]), (1, [("put", 0, 0), IN])])
        self.assertEqual(shut(gate), ([], 0))

    def test_many_gates(self):
        for gate in some_gates(random.Random(72), 250):
            self.assertEqual(shut(gate), shut_told(gate))

    def test_what_is_given_back_may_be_changed(self):
        gate = left_up()
        shut(gate)[0].clear()
        self.assertEqual(shut(gate), ([0, 0], 1))


class Hung(unittest.TestCase):

    def test_nobody(self):
        for gate in (peterson(), late_flags(), unguarded(1), unguarded(4), one_line()):
            self.assertIsNone(hung(gate))

    def test_two_hands_that_wait_for_each_other(self):
        self.assertEqual(hung(flags(2)), ([0, 1], [0, 1]))

    def test_two_hands_of_more(self):
        self.assertEqual(hung(flags(3)), ([0, 1], [0, 1]))
        self.assertEqual(hung(flags(4)), ([0, 1], [0, 1]))

    def test_the_first_of_two_that_hang_together(self):
        hands = flags(2).hands()
        gate = Gate([(0, 1)] * 2, [(2, [IDLE, IDLE, IN]), *hands])
        self.assertEqual(hung(gate), ([1, 2], [1, 2]))

    def test_one_hand(self):
        self.assertEqual(hung(blocked()), ([0], [0]))
        self.assertEqual(hung(left_up()), ([0, 1], [1]))

    def test_hands_that_never_wait_do_not_hang(self):
        gate = Gate([(0, 1)], [(2, [IDLE, STUCK, IN])])
        self.assertIsNone(hung(gate))

    def test_one_that_would_be_helped_from_outside_only(self):
        self.assertEqual(hung(helped()), ([0], [0]))

    def test_none_that_goes_outside_comes_to_help(self):
        # Hand 1 is still behind the gate there, and would come to help once more; but by way of outside.
        weaving, hands = hung(helped_from_outside())
        self.assertEqual((weaving, hands), ([0, 1, 0, 1, 1], [0]))
        self.assertEqual(played(helped_from_outside(), weaving)[-1], ((2,), (2, 3)))

    def test_one_that_is_helped_by_a_hand_that_does_not_wait(self):
        waits = [IDLE, ("go", 0, (0,), 1), ("go", 0, (2,), 2), IN]
        helps = [("put", 0, 2), ("put", 0, 1), IN, ("put", 0, 0)]
        gate = Gate([(0, 2)], [(2, waits), (2, helps)])
        state = played(gate, [0, 1, 0])[-1]
        self.assertEqual((state, waiting(gate, state)), (((2,), (2, 1)), [0]))
        self.assertIsNone(hung(gate))

    def test_not_where_one_of_two_that_wait_can_come(self):
        # Hand 0 is stuck while hand 1 waits, but as hand 1 comes within, nobody hangs there.
        gate = Gate([(0, 1)], [(1, [IDLE, ("go", 0, (0,), 1), IN]), (1, [("put", 0, 0), IDLE, IN, ("put", 0, 0)])])
        weaving, hands = hung(gate)
        self.assertEqual((weaving, hands), ([0], [0]))
        state = played(gate, [0, 1])[-1]
        self.assertEqual(waiting(gate, state), [0, 1])
        # The same, where hand 0 can wait only while hand 1 does: nobody hangs at all.
        first = (2, [IDLE, ("go", 0, (0,), 1), ("go", 0, (1,), 2), IN])
        gate = Gate([(0, 1)], [first, (1, [("put", 0, 1), IDLE, ("put", 0, 0), IN])])
        self.assertIsNone(hung(gate))

    def test_many_gates(self):
        for gate in some_gates(random.Random(81), 400):
            self.assertEqual(hung(gate), hung_told(gate))

    def test_what_is_given_back_may_be_changed(self):
        gate = flags(2)
        weaving, hands = hung(gate)
        weaving.clear()
        hands.clear()
        self.assertEqual(hung(gate), ([0, 1], [0, 1]))


class HeldUp(unittest.TestCase):

    def test_by_one_that_is_within(self):
        gate = peterson()
        state = played(gate, [0, 0, 0, 1, 1])[-1]
        self.assertEqual(state[1], (4, 2))
        self.assertEqual(held_up(gate, state, 0), [1])
        self.assertEqual(held_up(gate, state, 1), [])

    def test_by_one_that_is_outside(self):
        for gate in (peterson(), flags(2), flags(4), unguarded(3)):
            for hand in range(gate.many()):
                self.assertEqual(held_up(gate, begin(gate), hand), [])
        gate = peterson()
        self.assertEqual(held_up(gate, done(gate, done(gate, begin(gate), 1), 1), 0), [])

    def test_several_rising(self):
        gate = flags(4)
        state = played(gate, [2, 3, 0, 1])[-1]
        for hand in range(4):
            self.assertEqual(held_up(gate, state, hand), [other for other in range(4) if other != hand])

    def test_only_those_that_wait(self):
        gate = flags(4)
        state = played(gate, [2, 1, 1])[-1]
        self.assertEqual(held_up(gate, state, 2), [1])
        self.assertEqual(held_up(gate, state, 0), [1, 2])

    def test_the_hand_itself_is_not_told(self):
        gate = blocked()
        self.assertEqual(held_up(gate, ((0,), (1,)), 0), [])
        gate = blocked(2)
        self.assertEqual(held_up(gate, ((0,), (1, 0)), 0), [])
        self.assertEqual(held_up(gate, ((0,), (1, 0)), 1), [0])

    def test_others_may_help_from_outside(self):
        gate = helped()
        state = ((0,), (1, 0, 0))
        self.assertEqual(held_up(gate, state, 1), [])
        self.assertEqual(held_up(gate, state, 2), [])
        gate = Gate(gate.boxes(), gate.hands()[:2])
        self.assertEqual(held_up(gate, ((0,), (1, 0)), 1), [0])

    def test_others_may_help_by_way_of_others(self):
        # Hand 3 opens box 1 for hand 2, hand 2 opens box 0 for hand 0; hand 1 helps nobody.
        hands = [
            (1, [IDLE, ("go", 0, (0,), 1), IN]),
            (1, [IDLE, IN]),
            (1, [IDLE, ("go", 1, (0,), 1), IN, ("put", 0, 1)]),
            (1, [("put", 1, 1), IN]),
        ]
        gate = Gate([(0, 1), (0, 1)], hands)
        state = ((0, 0), (1, 0, 1, 0))
        self.assertEqual([held_up(gate, state, hand) for hand in range(4)], [[], [], [0], [0, 2]])

    def test_a_state_that_no_weaving_comes_to(self):
        gate = Gate([(0, 2)], [(1, [IDLE, ("go", 0, (1,), 1), IN]), (1, [("go", 0, (2,), 2), IDLE, IN])])
        self.assertEqual([state[0] for state in Map(gate).states()], [(0,)] * len(Map(gate).states()))
        self.assertEqual(held_up(gate, ((0,), (1, 0)), 1), [])
        self.assertEqual(held_up(gate, ((1,), (1, 0)), 1), [0])
        self.assertEqual(held_up(gate, ((2,), (1, 0)), 1), [])

    def test_both_within_and_beyond(self):
        gate = flags(2)
        self.assertEqual(held_up(gate, ((1, 1), (2, 2)), 0), [])
        self.assertEqual(held_up(gate, ((1, 1), (3, 1)), 0), [1])
        self.assertEqual(held_up(gate, ((0, 1), (0, 1)), 0), [])

    def test_one_that_waits_may_turn_back_first(self):
        # From its waiting step hand 0 goes on behind ("in",), and comes within only the next time.
        gate = Gate([(0, 1)], [(1, [("put", 0, 0), ("go", 0, (1,), 3), IN, IDLE]), (1, [("put", 0, 1), IN])])
        self.assertEqual(held_up(gate, ((1,), (1, 1)), 1), [])

    def test_one_hand(self):
        for place in range(5):
            self.assertEqual(held_up(one_line(), ((1,), (place,)), 0), [])

    def test_many_gates_and_any_states(self):
        chance = random.Random(82)
        for gate in some_gates(chance, 300):
            for number in range(5):
                state = some_state(chance, gate)
                for hand in range(gate.many()):
                    self.assertEqual(held_up(gate, state, hand), held_up_told(gate, state, hand))

    def test_no_hand(self):
        for gate in (one_line(), peterson(), flags(4)):
            many = gate.many()
            for hand in (-many - 1, -many, -1, many, many + 1, 99, FAR[0], -FAR[0], FAR[1], -FAR[1]):
                with self.assertRaises(GateError) as caught:
                    held_up(gate, begin(gate), hand)
                self.assertIs(type(caught.exception), NoHand)

    def test_nothing_is_changed_or_kept(self):
        gate = flags(3)
        before = gate.boxes(), gate.hands()
        state = played(gate, [0, 1, 2])[-1]
        held_up(gate, state, 0).clear()
        self.assertEqual(held_up(gate, state, 0), [1, 2])
        self.assertEqual((gate.boxes(), gate.hands()), before)


class HeldUpInManyStates(unittest.TestCase):

    def too_many(self, gate):
        with self.assertRaises(TooMany):
            Map(gate)

    def test_beyond_what_a_map_holds(self):
        # Three hands that go round beside the one that stops: more states than 5000, and all are looked at.
        wheel = (1, [("put", 0, 1), IN] + [IDLE] * 22)
        gate = Gate([(0, 1)], [wheel, wheel, wheel, (1, [("put", 0, 0), ("go", 0, (0,), 1), IN])])
        self.too_many(gate)
        self.assertEqual(held_up(gate, ((0,), (0, 0, 0, 1)), 0), [])
        stuck = Gate([(0, 1)], [wheel, wheel, wheel, (1, [("put", 0, 0), ("go", 0, (0, 1), 1), IN])])
        self.assertEqual(held_up(stuck, ((0,), (0, 0, 0, 1)), 0), [3])
        self.assertEqual(held_up(stuck, ((0,), (0, 0, 0, 1)), 3), [])

    def test_boxes_that_do_not_matter_to_the_hand(self):
        # Three hands put their numbers in boxes 1 to 11, which leads to far more states than can be looked at;
        # but hand 0 heeds box 0 only.
        waits = (1, [("put", 0, 1), *puts_around(21, 5), ("go", 0, (1,), 1), IN])
        signs = (1, [("put", 0, 1), IN, ("put", 0, 0)])
        gate = Gate([(0, 9)] * 12, [waits, reader(range(1, 7), 9), reader(range(6, 12), 7), signs])
        self.too_many(gate)
        state = ((1, 5, 6, 7, 8, 9, 8, 7, 6, 5, 4, 3), (1, 3, 5, 2))
        self.assertEqual(held_up(gate, state, 3), [0])
        self.assertEqual(held_up(gate, state, 1), [])
        self.assertEqual(held_up(gate, state, 2), [])

    def test_boxes_that_nobody_reads(self):
        # As many states; but here all hands matter to hand 0, as they put numbers in box 0.
        waits = (1, [("put", 0, 1), *puts_around(21, 5), ("go", 0, (0,), 1), IN])
        writers = [(1, [("put", 0, 0), IN, *puts_around(22, number)]) for number in (9, 7)]
        gate = Gate([(0, 9)] * 12, [waits, *writers, (1, [("put", 0, 1), IN])])
        self.too_many(gate)
        state = ((0,) * 12, (1, 4, 9, 0))
        self.assertEqual(held_up(gate, state, 3), [0])
        self.assertEqual(held_up(gate, state, 1), [])


def puts_around(count, number):
    """So many steps that put the number in boxes 1 to 11, round and round."""
    return [("put", 1 + at % 11, number) for at in range(count)]


def reader(boxes, number):
    """A hand of 24 steps that reads six boxes, and puts the number in all but box 0."""
    reads = [("go", box, (number,), at) for at, box in enumerate(boxes, 4)]
    return (1, [IDLE, IN, *reads, *puts_around(16, number)])


if __name__ == "__main__":
    unittest.main()
