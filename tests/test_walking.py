"""Promises 2 and 3 (points 4 and 5): states, steps, weavings, and who is where."""

import itertools
import random
import unittest

from gatehands.errors import GateError, NoHand
from gatehands.gates import Gate
from gatehands.walking import begin, done, outside, played, waiting, within
from tests.some_gates import FAR, IN, some_boxes, some_hand, some_state, stepped


def small():
    """Two hands and two boxes: the program of each hand stands at its steps' numbers."""
    first = (2, [
        ("put", 0, 2),
        ("go", 1, (), 1),
        ("go", 1, (1, 3), 5),
        ("put", 1, 3),
        IN,
        ("go", 0, (0, 2), 2),
        ("put", 0, 0),
    ])
    second = (1, [("go", 0, (2,), 2), IN, ("put", 1, 1)])
    return Gate([(1, 2), (0, 3)], [first, second])


def line(count, steps=6, knock=2, place=4):
    """A gate of hands that just put 0, and are within at one place."""
    program = [("put", 0, 0)] * steps
    program[place] = IN
    return Gate([(0, 0)], [(knock, list(program)) for number in range(count)])


def all_states(gate):
    boxes = [range(most + 1) for first, most in gate.boxes()]
    places = [range(len(steps)) for knock, steps in gate.hands()]
    for held in itertools.product(*boxes):
        for at in itertools.product(*places):
            yield held, at


def some_gate(chance):
    boxes = some_boxes(chance, chance.randint(1, 12), 9)
    return Gate(boxes, [some_hand(chance, boxes, 2, 24) for number in range(chance.randint(1, 4))])


class WalkingTest(unittest.TestCase):

    def no_hand(self, action, *told):
        with self.assertRaises(GateError) as caught:
            action(*told)
        self.assertIs(type(caught.exception), NoHand)


class States(WalkingTest):

    def test_the_first_state(self):
        self.assertEqual(begin(small()), ((1, 0), (0, 0)))

    def test_the_first_state_of_one_hand_and_one_box(self):
        for first in (0, 9):
            self.assertEqual(begin(Gate([(first, 9)], [(1, [("put", 0, 4), IN])])), ((first,), (0,)))

    def test_the_first_state_of_four_hands_and_twelve_boxes(self):
        boxes = [(number % 10, 9) for number in range(12)]
        gate = Gate(boxes, [(1, [("put", 11, 5), IN])] * 4)
        self.assertEqual(begin(gate), ((0, 1, 2, 3, 4, 5, 6, 7, 8, 9, 0, 1), (0, 0, 0, 0)))
        self.assertEqual(done(gate, begin(gate), 3), ((0, 1, 2, 3, 4, 5, 6, 7, 8, 9, 0, 5), (0, 0, 0, 1)))

    def test_states_are_tuples(self):
        gate = small()
        for state in (begin(gate), done(gate, begin(gate), 0), played(gate, [0, 1])[-1]):
            self.assertEqual([type(part) for part in (state, *state)], [tuple] * 3)


class Steps(WalkingTest):

    def test_put_puts_the_number_in_its_box_and_leads_on(self):
        self.assertEqual(done(small(), ((1, 0), (0, 0)), 0), ((2, 0), (1, 0)))
        self.assertEqual(done(small(), ((0, 2), (3, 1)), 0), ((0, 3), (4, 1)))

    def test_put_of_what_the_box_holds_leads_on(self):
        self.assertEqual(done(small(), ((2, 0), (0, 2)), 0), ((2, 0), (1, 2)))

    def test_go_goes_on_at_its_step_by_one_of_its_numbers(self):
        for number, behind in ((0, 3), (1, 5), (2, 3), (3, 5)):
            self.assertEqual(done(small(), ((1, number), (2, 1)), 0), ((1, number), (behind, 1)))

    def test_go_may_lead_back(self):
        for number, behind in ((0, 2), (1, 6), (2, 2)):
            self.assertEqual(done(small(), ((number, 0), (5, 0)), 0), ((number, 0), (behind, 0)))

    def test_go_without_numbers_leads_on(self):
        for held in itertools.product(range(3), range(4)):
            self.assertEqual(done(small(), (held, (1, 0)), 0), (held, (2, 0)))

    def test_go_may_lead_to_itself(self):
        gate = Gate([(0, 1)], [(1, [("put", 0, 1), ("go", 0, (1,), 1), IN])])
        self.assertEqual(done(gate, ((1,), (1,)), 0), ((1,), (1,)))
        self.assertEqual(done(gate, ((0,), (1,)), 0), ((0,), (2,)))

    def test_go_as_the_first_step(self):
        self.assertEqual(done(small(), ((2, 1), (4, 0)), 1), ((2, 1), (4, 2)))
        self.assertEqual(done(small(), ((1, 1), (4, 0)), 1), ((1, 1), (4, 1)))

    def test_in_leads_on(self):
        self.assertEqual(done(small(), ((1, 2), (4, 1)), 0), ((1, 2), (5, 1)))
        self.assertEqual(done(small(), ((1, 2), (4, 1)), 1), ((1, 2), (4, 2)))

    def test_behind_the_last_step_comes_step_0(self):
        self.assertEqual(done(small(), ((2, 2), (6, 2)), 0), ((0, 2), (0, 2)))
        self.assertEqual(done(small(), ((2, 2), (6, 2)), 1), ((2, 1), (6, 0)))

    def test_behind_in_as_the_last_step_comes_step_0(self):
        gate = Gate([(0, 1)], [(1, [("put", 0, 1), IN])])
        self.assertEqual(done(gate, ((1,), (1,)), 0), ((1,), (0,)))

    def test_behind_go_as_the_last_step_comes_step_0_or_its_step(self):
        gate = Gate([(0, 1)], [(1, [("put", 0, 1), IN, ("go", 0, (1,), 1)])])
        self.assertEqual(done(gate, ((0,), (2,)), 0), ((0,), (0,)))
        self.assertEqual(done(gate, ((1,), (2,)), 0), ((1,), (1,)))

    def test_24_steps_once_around(self):
        gate = line(1, steps=24, knock=1, place=23)
        self.assertEqual([places[0] for boxes, places in played(gate, [0] * 25)], list(range(24)) + [0, 1])

    def test_a_hand_that_waits_or_is_within_holds_up_no_other(self):
        gate = line(2)
        self.assertEqual(done(gate, ((0,), (4, 3)), 1), ((0,), (4, 4)))
        self.assertEqual(done(gate, ((0,), (4, 4)), 1), ((0,), (4, 5)))

    def test_every_step_from_every_state(self):
        gate = small()
        for state in all_states(gate):
            for hand in range(2):
                self.assertEqual(done(gate, state, hand), stepped(gate, state, hand), (state, hand))

    def test_steps_of_many_gates(self):
        chance = random.Random(20)
        for number in range(300):
            gate = some_gate(chance)
            before = gate.boxes(), gate.hands()
            for again in range(10):
                state = some_state(chance, gate)
                for hand in range(gate.many()):
                    self.assertEqual(done(gate, state, hand), stepped(gate, state, hand))
            self.assertEqual((gate.boxes(), gate.hands()), before)

    def test_no_hand(self):
        for gate in (line(1), small(), line(4)):
            state = begin(gate)
            for hand in (-gate.many() - 1, -gate.many(), -2, -1, gate.many(), gate.many() + 1, 99):
                self.no_hand(done, gate, state, hand)
            for far in FAR:
                self.no_hand(done, gate, state, far)
                self.no_hand(done, gate, state, -far)
            done(gate, state, 0)
            done(gate, state, gate.many() - 1)


class WhoIsWhere(WalkingTest):

    def where(self, gate, state):
        return within(gate, state), waiting(gate, state), outside(gate, state)

    def test_each_step_of_a_program(self):
        told = [([], [], [0]), ([], [], []), ([], [0], []), ([], [0], []), ([0], [], []), ([], [], [])]
        for place, where in enumerate(told):
            self.assertEqual(self.where(line(1), ((0,), (place,))), where)

    def test_knock_at_1(self):
        told = [([], [], [0]), ([], [0], []), ([], [0], []), ([], [0], []), ([0], [], []), ([], [], [])]
        for place, where in enumerate(told):
            self.assertEqual(self.where(line(1, knock=1), ((0,), (place,))), where)

    def test_knock_at_the_in_step(self):
        told = [([], [], [0]), ([], [], []), ([], [], []), ([], [], []), ([0], [], []), ([], [], [])]
        for place, where in enumerate(told):
            self.assertEqual(self.where(line(1, knock=4), ((0,), (place,))), where)

    def test_two_steps_never_wait(self):
        gate = Gate([(0, 0)], [(1, [("put", 0, 0), IN])])
        self.assertEqual(self.where(gate, ((0,), (0,))), ([], [], [0]))
        self.assertEqual(self.where(gate, ((0,), (1,))), ([0], [], []))

    def test_a_last_step_that_is_in(self):
        gate = line(1, steps=24, knock=22, place=23)
        told = [([], [], [0])] + [([], [], [])] * 21 + [([], [0], []), ([0], [], [])]
        told[22] = ([], [0], [])
        for place, where in enumerate(told):
            self.assertEqual(self.where(gate, ((0,), (place,))), where)

    def test_each_hand_by_its_own_program(self):
        gate = small()
        self.assertEqual(self.where(gate, ((1, 0), (1, 1))), ([1], [], []))
        self.assertEqual(self.where(gate, ((1, 0), (2, 2))), ([], [0], []))
        self.assertEqual(self.where(gate, ((1, 0), (0, 1))), ([1], [], [0]))
        self.assertEqual(self.where(gate, ((1, 0), (4, 0))), ([0], [], [1]))

    def test_four_hands_at_once_rising(self):
        gate = line(4)
        self.assertEqual(self.where(gate, ((0,), (0, 0, 0, 0))), ([], [], [0, 1, 2, 3]))
        self.assertEqual(self.where(gate, ((0,), (4, 4, 4, 4))), ([0, 1, 2, 3], [], []))
        self.assertEqual(self.where(gate, ((0,), (3, 2, 3, 2))), ([], [0, 1, 2, 3], []))
        self.assertEqual(self.where(gate, ((0,), (4, 0, 3, 4))), ([0, 3], [2], [1]))
        self.assertEqual(self.where(gate, ((0,), (0, 2, 5, 0))), ([], [1], [0, 3]))

    def test_states_that_no_weaving_comes_to(self):
        # Box 0 of this gate never leaves 0, but a state may be handed in all the same.
        gate = Gate([(0, 1)], [(1, [("go", 0, (1,), 2), ("go", 0, (0,), 1), IN])])
        self.assertEqual(self.where(gate, ((1,), (2,))), ([0], [], []))
        self.assertEqual(self.where(gate, ((1,), (1,))), ([], [0], []))
        self.assertEqual(done(gate, ((1,), (0,)), 0), ((1,), (2,)))
        self.assertEqual(done(gate, ((1,), (2,)), 0), ((1,), (0,)))

    def test_what_is_given_back_may_be_changed(self):
        gate, state = line(4), ((0,), (4, 0, 3, 4))
        for told in self.where(gate, state):
            told.append(9)
        self.assertEqual(self.where(gate, state), ([0, 3], [2], [1]))

    def test_many_gates(self):
        chance = random.Random(21)
        for number in range(300):
            gate = some_gate(chance)
            state = some_state(chance, gate)
            found = {"within": [], "waiting": [], "outside": []}
            for hand, (knock, steps) in enumerate(gate.hands()):
                place = state[1][hand]
                if place == 0:
                    found["outside"].append(hand)
                elif steps[place] == IN:
                    found["within"].append(hand)
                elif place >= knock and IN in steps[place:]:
                    found["waiting"].append(hand)
            self.assertEqual(self.where(gate, state), (found["within"], found["waiting"], found["outside"]))


class Weavings(WalkingTest):

    def test_an_ordinary_weaving(self):
        self.assertEqual(played(small(), [1, 0, 0, 1, 0, 1, 0, 0]), [
            ((1, 0), (0, 0)),
            ((1, 0), (0, 1)),
            ((2, 0), (1, 1)),
            ((2, 0), (2, 1)),
            ((2, 0), (2, 2)),
            ((2, 0), (3, 2)),
            ((2, 1), (3, 0)),
            ((2, 3), (4, 0)),
            ((2, 3), (5, 0)),
        ])

    def test_a_weaving_of_no_steps(self):
        self.assertEqual(played(small(), []), [((1, 0), (0, 0))])

    def test_a_weaving_of_301_steps(self):
        gate = small()
        weaving = [(number * number // 3) % 2 for number in range(301)]
        states = played(gate, weaving)
        self.assertEqual(len(states), 302)
        self.assertEqual(states[0], begin(gate))
        for number, hand in enumerate(weaving):
            self.assertEqual(states[number + 1], stepped(gate, states[number], hand))

    def test_a_somewhat_longer_weaving(self):
        self.assertEqual(len(played(line(2), [0, 1] * 200)), 401)

    def test_four_hands(self):
        states = played(line(4), [3, 1, 3, 0, 2, 3])
        self.assertEqual(states[-1], ((0,), (1, 1, 1, 3)))
        self.assertEqual(len(states), 7)

    def test_no_hand(self):
        for gate in (line(1), small(), line(4)):
            many = gate.many()
            for hand in (-many - 1, -many, -1, many, many + 1, 99):
                self.no_hand(played, gate, [hand])
                self.no_hand(played, gate, [0, hand, 0])
                self.no_hand(played, gate, [0] * 300 + [hand])
            for far in FAR:
                self.no_hand(played, gate, [far])
                self.no_hand(played, gate, [0, -far, 0])

    def test_the_weaving_stays_as_it_is(self):
        weaving = [0, 1, 1, 0]
        played(small(), weaving)
        self.assertEqual(weaving, [0, 1, 1, 0])
        weaving = [0, 1, 2, 0]
        self.no_hand(played, small(), weaving)
        self.assertEqual(weaving, [0, 1, 2, 0])

    def test_what_is_given_back_may_be_changed(self):
        gate = small()
        played(gate, [0, 1]).clear()
        self.assertEqual(played(gate, [0, 1]), [((1, 0), (0, 0)), ((2, 0), (1, 0)), ((2, 0), (1, 2))])


if __name__ == "__main__":
    unittest.main()
