"""Promise 1 (points 2 and 3): what a gate is, and how one that cannot be is refused."""

import copy
import unittest

from gatehands.errors import BadGate, GateError
from gatehands.gates import Gate
from tests.some_gates import IN, peterson_parts

BOX = (0, 1)
PLAIN = (1, [("put", 0, 1), IN])
LONG = (1, [("put", 0, 1)] + [("go", 0, (), 1)] * 22 + [IN])


def hand(*steps, knock=1):
    return (knock, list(steps))


class GateTest(unittest.TestCase):

    def accepted(self, boxes, hands):
        boxes_then, hands_then = copy.deepcopy(boxes), copy.deepcopy(hands)
        gate = Gate(boxes, hands)
        self.assertEqual(gate.boxes(), boxes_then)
        self.assertEqual(gate.hands(), hands_then)
        self.assertEqual(gate.many(), len(hands_then))
        self.assertEqual((boxes, hands), (boxes_then, hands_then))

    def refused(self, boxes, hands, why, hand=0, step=0):
        boxes_then, hands_then = copy.deepcopy(boxes), copy.deepcopy(hands)
        with self.assertRaises(GateError) as caught:
            Gate(boxes, hands)
        error = caught.exception
        self.assertIs(type(error), BadGate)
        self.assertEqual((error.why, error.hand, error.step), (why, hand, step))
        self.assertEqual((boxes, hands), (boxes_then, hands_then))

    def refused_step(self, step, boxes=((0, 1), (2, 5)), ahead=1):
        steps = [("go", 0, (), 1)] * ahead + [step, IN, ("put", 0, 0)]
        self.refused(list(boxes), [(1, steps)], "step", 0, ahead)

    def accepted_step(self, step, boxes=((0, 1), (2, 5)), ahead=1):
        steps = [("go", 0, (), 1)] * ahead + [step, IN, ("put", 0, 0)]
        self.accepted(list(boxes), [(1, steps)])


class GatesThatCanBe(GateTest):

    def test_an_ordinary_gate(self):
        self.accepted(*peterson_parts())

    def test_one_box_and_one_hand(self):
        self.accepted([BOX], [PLAIN])

    def test_twelve_boxes(self):
        self.accepted([(0, 1)] * 11 + [(3, 7)], [hand(("put", 11, 7), ("go", 11, (0, 3, 7), 1), IN)])

    def test_four_hands(self):
        self.accepted([BOX], [PLAIN, LONG, PLAIN, hand(("put", 0, 0), IN, ("put", 0, 1))])

    def test_two_and_24_steps(self):
        self.assertEqual((len(PLAIN[1]), len(LONG[1])), (2, 24))
        self.accepted([BOX], [PLAIN, LONG])

    def test_boxes_most_from_0_to_9(self):
        self.accepted([(0, 0)], [hand(("put", 0, 0), ("go", 0, (0,), 2), IN)])
        self.accepted([(0, 9)], [hand(("put", 0, 9), ("go", 0, tuple(range(10)), 2), IN)])

    def test_first_equal_to_most(self):
        for most in range(10):
            self.accepted([(most, most)], [hand(("put", 0, most), IN)])

    def test_put_takes_numbers_from_0_to_the_boxs_most(self):
        for number in range(6):
            self.accepted_step(("put", 1, number))

    def test_go_takes_any_rising_numbers(self):
        for numbers in ((), (0,), (5,), (0, 5), (1, 2, 4), (0, 1, 2, 3, 4, 5)):
            self.accepted_step(("go", 1, numbers, 1))

    def test_go_leads_to_any_step_but_step_0(self):
        for at in range(1, 4):
            self.accepted_step(("go", 1, (2,), at))

    def test_knock_from_1_to_the_in_step(self):
        for knock in (1, 2, 3):
            self.accepted([BOX], [hand(("put", 0, 1), ("put", 0, 0), ("put", 0, 1), IN, knock=knock)])

    def test_in_may_be_the_last_step_or_stand_short_of_it(self):
        self.accepted([BOX], [hand(("put", 0, 1), IN)])
        self.accepted([BOX], [hand(("put", 0, 1), IN, ("put", 0, 0), ("put", 0, 1))])


class GatesThatCannotBe(GateTest):

    def test_count_of_boxes(self):
        for count in (0, 13, 20):
            self.refused([BOX] * count, [PLAIN], "boxes")

    def test_bad_box(self):
        for box in ((-1, 1), (0, 10), (2, 1), (10, 10), (0, -1), (-1, -1), (-2, -1), (9, 12)):
            self.refused([box], [PLAIN], "box", 0, 0)
            self.refused([BOX, (0, 9), box, BOX, box], [PLAIN], "box", 0, 2)
            self.refused([BOX] * 11 + [box], [PLAIN], "box", 0, 11)

    def test_count_of_hands(self):
        for count in (0, 5, 9):
            self.refused([BOX], [PLAIN] * count, "hands")

    def test_count_of_steps(self):
        self.refused([BOX], [hand()], "steps", 0)
        self.refused([BOX], [hand(IN)], "steps", 0)
        self.refused([BOX], [PLAIN, hand(("put", 0, 1))], "steps", 1)
        for more in (22, 30):
            steps = [("put", 0, 1)] + [("go", 0, (), 1)] * more + [IN, ("put", 0, 0)]
            self.refused([BOX], [PLAIN, LONG, PLAIN, (1, steps)], "steps", 3)

    def test_put_into_a_box_that_there_is_not(self):
        for box in (-2, -1, 2, 12):
            self.refused_step(("put", box, 0))

    def test_put_of_a_number_that_the_box_cannot_hold(self):
        for box, number in ((0, -1), (0, 2), (1, 6), (1, 9), (1, 10), (1, -1)):
            self.refused_step(("put", box, number))

    def test_go_by_a_box_that_there_is_not(self):
        for box in (-2, -1, 2, 12):
            for numbers in ((), (0,)):
                self.refused_step(("go", box, numbers, 1))

    def test_go_by_numbers_that_the_box_cannot_hold(self):
        for box, numbers in ((0, (-1,)), (0, (2,)), (0, (0, 1, 2)), (1, (-1, 0)), (1, (6,)), (1, (0, 5, 6))):
            self.refused_step(("go", box, numbers, 1))

    def test_go_by_numbers_that_do_not_rise(self):
        for numbers in ((1, 0), (0, 0), (0, 2, 1), (0, 3, 3), (5, 4, 3)):
            self.refused_step(("go", 1, numbers, 1))

    def test_go_to_a_step_that_there_is_not_or_to_step_0(self):
        for at in (-4, -1, 0, 4, 5, 24):
            self.refused_step(("go", 1, (2,), at))

    def test_first_bad_step(self):
        bad = ("put", 0, 2)
        for number in range(3):
            steps = [("put", 0, 1)] * number + [bad] * (3 - number) + [IN]
            self.refused([BOX], [PLAIN, (1, steps)], "step", 1, number)
        self.refused([BOX], [hand(("put", 0, 1), IN, bad)], "step", 0, 2)

    def test_steps_are_measured_by_their_own_hands_program(self):
        short = hand(("put", 0, 1), ("go", 0, (0,), 3), IN)
        self.refused([BOX], [LONG, short], "step", 1, 1)

    def test_in_just_once_and_not_as_step_0(self):
        put = ("put", 0, 1)
        self.refused([BOX], [hand(put, put)], "in", 0)
        self.refused([BOX], [hand(IN, put)], "in", 0)
        self.refused([BOX], [hand(IN, IN)], "in", 0)
        self.refused([BOX], [PLAIN, hand(put, IN, IN)], "in", 1)
        self.refused([BOX], [PLAIN, PLAIN, hand(IN, put, IN)], "in", 2)

    def test_knock_out_of_place(self):
        put = ("put", 0, 1)
        for knock in (-1, 0, 3, 4, 24):
            self.refused([BOX], [hand(put, put, IN, put, knock=knock)], "knock", 0)
            self.refused([BOX], [PLAIN, PLAIN, hand(put, put, IN, put, knock=knock)], "knock", 2)


class TheFirstRefusal(GateTest):
    """Each faulty part stands ahead of all that are told behind it in point 3."""

    def test_boxes_ahead_of_all(self):
        self.refused([(2, 1)] * 13, [], "boxes")
        self.refused([], [hand(IN)] * 5, "boxes")

    def test_box_ahead_of_hands(self):
        self.refused([BOX, (0, 10)], [], "box", 0, 1)
        self.refused([(0, 10)], [hand(IN)] * 5, "box", 0, 0)

    def test_hands_ahead_of_each_hand(self):
        self.refused([BOX], [hand(IN, knock=0)] * 5, "hands")

    def test_steps_ahead_of_step(self):
        self.refused([BOX], [hand(("put", 1, 0))], "steps", 0)
        self.refused([BOX], [hand(*[("put", 1, 0)] * 25, knock=0)], "steps", 0)

    def test_step_ahead_of_in(self):
        self.refused([BOX], [hand(IN, IN, ("put", 0, 2), knock=0)], "step", 0, 2)
        self.refused([BOX], [hand(("put", 0, 1), ("go", 0, (), 0))], "step", 0, 1)

    def test_in_ahead_of_knock(self):
        self.refused([BOX], [hand(("put", 0, 1), ("put", 0, 1), knock=0)], "in", 0)
        self.refused([BOX], [hand(IN, ("put", 0, 1), knock=0)], "in", 0)

    def test_knock_ahead_of_the_next_hand(self):
        self.refused([BOX], [hand(("put", 0, 1), IN, knock=2), hand(IN)], "knock", 0)

    def test_each_hand_ahead_of_the_next_one(self):
        steps, step = hand(IN), hand(("put", 1, 0), IN)
        within, knock = hand(IN, ("put", 0, 0)), hand(("put", 0, 0), IN, knock=0)
        told = ((steps, "steps"), (step, "step"), (within, "in"), (knock, "knock"))
        for bad, why in told:
            for other, word in told:
                self.refused([BOX], [PLAIN, bad, other, PLAIN], why, 1)


class NothingIsShared(GateTest):

    def test_what_was_handed_in_may_be_changed_behind(self):
        boxes, hands = peterson_parts()
        gate = Gate(boxes, hands)
        for knock, steps in hands:
            steps[0] = ("put", 0, 0)
            steps.append(IN)
        boxes[0] = (1, 1)
        boxes.append((0, 9))
        hands.pop()
        self.assertEqual((gate.boxes(), gate.hands()), peterson_parts())
        self.assertEqual(gate.many(), 2)

    def test_what_was_given_back_may_be_changed(self):
        gate = Gate(*peterson_parts())
        for knock, steps in gate.hands():
            steps.clear()
        gate.hands().clear()
        gate.boxes().clear()
        self.assertEqual((gate.boxes(), gate.hands()), peterson_parts())
        self.assertEqual(gate.many(), 2)

    def test_hands_that_share_a_list_are_given_back_apart(self):
        steps = [("put", 0, 1), IN]
        gate = Gate([BOX], [(1, steps), (1, steps)])
        given = gate.hands()
        given[0][1].append(IN)
        self.assertEqual(given[1], (1, [("put", 0, 1), IN]))

    def test_two_gates_stand_apart(self):
        gate, other = Gate(*peterson_parts()), Gate([BOX], [PLAIN])
        self.assertEqual((gate.boxes(), gate.hands()), peterson_parts())
        self.assertEqual((other.boxes(), other.hands(), other.many()), ([BOX], [PLAIN], 1))


if __name__ == "__main__":
    unittest.main()
