"""Promises 5, 11, 12 and 13 (points 6, 10 and 11): papers that are kept, why others are not, and papers told."""

import copy
import itertools
import random
import unittest

from gatehands.errors import GateError, TooMany, TwoWithin
from gatehands.gates import Gate
from gatehands.looking import two_within
from gatehands.papers import fault, paper
from tests.some_gates import (
    IDLE, IN, counted, first_state, flags, is_within, one_line, peterson, some_gates, stepped, unguarded, weavings,
    wheels,
)


def states_told(room):
    boxes, places = room
    return sorted(itertools.product(itertools.product(*boxes), itertools.product(*places)))


def fault_told(gate, rooms):
    held = [set(states_told(room)) for room in rooms]
    if not any(first_state(gate) in states for states in held):
        return ("begin",)
    for number, states in enumerate(held):
        for state in states:
            if sum(is_within(gate, state, hand) for hand in range(gate.many())) > 1:
                return ("two", number)
    for number, states in enumerate(held):
        for state in sorted(states):
            for hand in range(gate.many()):
                if not any(stepped(gate, state, hand) in other for other in held):
                    return ("leaves", number, state, hand)
    return None


def whole_room(gate):
    boxes = tuple(tuple(range(most + 1)) for first, most in gate.boxes())
    return boxes, tuple(tuple(range(len(steps))) for knock, steps in gate.hands())


def room_around(states):
    """The smallest room that has all these states."""
    sides = [zip(*[state[side] for state in states]) for side in (0, 1)]
    return tuple(tuple(tuple(sorted(set(values))) for values in side) for side in sides)


def peterson_paper():
    """Both outside or on the way, one ahead of the other, and one within while the other gives way."""
    both, no, yes = (0, 1), (0,), (1,)
    return [
        ((no, no, both), ((0,), (0,))),
        ((yes, no, both), ((1,), (0,))), ((no, yes, both), ((0,), (1,))),
        ((yes, yes, both), ((1,), (1,))),
        ((yes, no, yes), ((2, 3, 4, 5), (0,))), ((no, yes, no), ((0,), (2, 3, 4, 5))),
        ((yes, yes, yes), ((2, 3, 4, 5), (1,))), ((yes, yes, no), ((1,), (2, 3, 4, 5))),
        ((yes, yes, no), ((2, 3, 4, 5), (2, 3))), ((yes, yes, yes), ((2, 3), (2, 3, 4, 5))),
    ]


def line_and_box():
    """One hand and a box of 0 to 2: it puts 1 there, comes within, and puts 0 there."""
    return Gate([(0, 2)], [(1, [("put", 0, 1), IN, ("put", 0, 0)])])


def lassos(first):
    """Never two within, 5000 states, and one more if first is 1: all but hand 0 go round and never come within."""
    wheel = (1, [("put", 0, 0), IN] + [IDLE] * 3)
    lasso = (1, [("put", 0, 0)] + [IDLE] * 8 + [("go", 0, (0,), 1), IN])
    return Gate([(first, 1)], [wheel, lasso, lasso, lasso])


def wide_gate(steps):
    """A hand for each of these counts of steps, which waits for ever at step 1, and two boxes."""
    hands = [(1, [("put", 0, 0), ("go", 0, (0,), 1)] + [IDLE] * (many - 3) + [IN]) for many in steps]
    return Gate([(0, 9), (0, 9)], hands)


def wide_room(gate, boxes):
    """The first numbers of each box, so many, and all steps of each hand."""
    return tuple(tuple(range(many)) for many in boxes), whole_room(gate)[1]


def some_room(chance, gate):
    boxes, places = whole_room(gate)
    return tuple(
        tuple(tuple(sorted(chance.sample(part, chance.randint(1, len(part))))) for part in side)
        for side in (boxes, places)
    )


def some_paper(chance, gate):
    """Rooms around states that weavings come to, with some left out, and any rooms."""
    states = list(weavings(gate))
    chance.shuffle(states)
    rooms = []
    while states:
        many = chance.randint(1, 4)
        rooms.append(room_around(states[:many]))
        states = states[many:]
    if chance.random() < 0.5:
        rooms = chance.sample(rooms, chance.randint(0, len(rooms)))
    rooms += [some_room(chance, gate) for number in range(chance.choice((0, 0, 1, 2)))]
    chance.shuffle(rooms)
    return rooms


class Kept(unittest.TestCase):

    def test_a_paper_for_two_hands(self):
        gate, rooms = peterson(), peterson_paper()
        self.assertIsNone(fault_told(gate, rooms))
        self.assertIsNone(fault(gate, rooms))
        self.assertIsNone(fault(gate, rooms[::-1]))

    def test_one_room_for_one_hand(self):
        for gate in (one_line(), line_and_box()):
            self.assertIsNone(fault(gate, [whole_room(gate)]))

    def test_states_that_weavings_never_come_to_may_be_held(self):
        gate = line_and_box()
        self.assertIsNone(fault(gate, [(((0, 1, 2),), ((0, 1, 2),))]))
        self.assertIsNone(fault(gate, [(((0,),), ((0,),)), (((1,),), ((1, 2),)), (((2,),), ((2,),))]))

    def test_rooms_may_overlap_and_repeat(self):
        gate = line_and_box()
        room = whole_room(gate)
        self.assertIsNone(fault(gate, [room, room, (((0, 1),), ((0, 1),))]))

    def test_a_room_that_is_led_to_by_others_only(self):
        gate = line_and_box()
        rooms = [(((0,),), ((0,),)), (((1,),), ((1,),)), (((1,),), ((2,),))]
        for order in itertools.permutations(rooms):
            self.assertIsNone(fault(gate, list(order)))


class Faults(unittest.TestCase):

    def test_no_room(self):
        for gate in (one_line(), peterson(), flags(4), unguarded(2)):
            self.assertEqual(fault(gate, []), ("begin",))

    def test_the_first_state_is_in_no_room(self):
        gate = line_and_box()
        self.assertEqual(fault(gate, [(((1, 2),), ((0, 1, 2),))]), ("begin",))
        self.assertEqual(fault(gate, [(((0, 1),), ((1, 2),))]), ("begin",))
        self.assertEqual(fault(gate, [(((1,),), ((0,),)), (((0,),), ((1,),))]), ("begin",))
        self.assertEqual(fault(peterson(), peterson_paper()[1:]), ("begin",))

    def test_the_first_numbers_need_not_be_0(self):
        gate = Gate([(1, 2)], [(1, [IDLE, IN])])
        self.assertEqual(fault(gate, [(((0, 2),), ((0, 1),))]), ("begin",))
        self.assertIsNone(fault(gate, [(((1,),), ((0, 1),))]))

    def test_two_may_be_within(self):
        gate = unguarded(2)
        self.assertEqual(fault(gate, [whole_room(gate)]), ("two", 0))
        rooms = [(((0,),), ((0,), (0,))), (((0,),), ((2,), (1, 2)))]
        self.assertEqual(fault(gate, rooms), ("two", 1))
        self.assertEqual(fault(gate, rooms + rooms), ("two", 1))

    def test_two_though_no_weaving_leads_there(self):
        gate = peterson()
        self.assertEqual(fault(gate, peterson_paper() + [whole_room(gate)]), ("two", 10))
        self.assertEqual(fault(gate, [whole_room(gate)]), ("two", 0))

    def test_any_two_of_four(self):
        gate = unguarded(4)
        first = (((0,),), ((0,), (0,), (0,), (0,)))
        for pair in itertools.combinations(range(4), 2):
            places = tuple((0, 1, 2) if hand in pair else (0, 1) for hand in range(4))
            self.assertEqual(fault(gate, [first, (((0,),), places)]), ("two", 1))
        for hand in range(4):
            places = tuple((0, 1, 2) if other == hand else (0, 1) for other in range(4))
            self.assertEqual(fault(gate, [first, (((0,),), places)])[0], "leaves")

    def test_a_step_leaves(self):
        gate = line_and_box()
        self.assertEqual(fault(gate, [(((0,),), ((0, 1, 2),))]), ("leaves", 0, ((0,), (0,)), 0))
        self.assertEqual(fault(gate, [(((0, 1),), ((0, 1),))]), ("leaves", 0, ((0,), (1,)), 0))
        self.assertEqual(fault(gate, [(((0,),), ((0,),)), (((1,),), ((1,),))]), ("leaves", 1, ((1,), (1,)), 0))
        rooms = [(((2,),), ((0,),)), (((0,),), ((0,),)), (((2,),), ((2,),))]
        self.assertEqual(fault(gate, rooms), ("leaves", 0, ((2,), (0,)), 0))

    def test_the_first_state_and_hand(self):
        gate = unguarded(2)
        self.assertEqual(fault(gate, [(((0,),), ((0, 1), (0, 1)))]), ("leaves", 0, ((0,), (0, 1)), 1))
        self.assertEqual(fault(gate, [(((0,),), ((0, 1), (0,)))]), ("leaves", 0, ((0,), (0, 0)), 1))
        self.assertEqual(fault(gate, [(((0,),), ((0,), (0,)))]), ("leaves", 0, ((0,), (0, 0)), 0))
        gate = Gate([(0, 1), (0, 1)], [(1, [("put", 0, 1), IN]), (1, [("put", 1, 1), IN])])
        rooms = [(((0, 1), (0,)), ((0,), (0, 1))), (((1,), (0,)), ((1,), (0,)))]
        self.assertEqual(fault(gate, rooms), ("leaves", 0, ((0, 0), (0, 0)), 1))

    def test_boxes_are_ahead_of_places_among_states(self):
        gate = Gate([(0, 1)], [(1, [IDLE, ("go", 0, (1,), 3), IN, ("go", 0, (1,), 4), IDLE])])
        self.assertEqual(fault(gate, [(((0, 1),), ((0, 1),))]), ("leaves", 0, ((0,), (1,)), 0))
        self.assertEqual(fault(gate, [(((0, 1),), ((0, 1, 2),))]), ("leaves", 0, ((0,), (2,)), 0))
        self.assertEqual(fault(gate, [(((0, 1),), ((0, 1, 2, 4),))]), ("leaves", 0, ((0,), (2,)), 0))
        self.assertEqual(fault(gate, [(((0, 1),), ((0, 1, 2, 3),))]), ("leaves", 0, ((0,), (3,)), 0))

    def test_begin_is_told_ahead_of_two_and_two_ahead_of_leaves(self):
        gate = unguarded(2)
        two = (((0,),), ((2,), (2,)))
        first = (((0,),), ((0,), (0,)))
        self.assertEqual(fault(gate, [two]), ("begin",))
        self.assertEqual(fault(gate, [two, first]), ("two", 0))
        self.assertEqual(fault(gate, [first, two]), ("two", 1))
        self.assertEqual(fault(gate, [first]), ("leaves", 0, first_state(gate), 0))


class AnyPapers(unittest.TestCase):

    def test_many_papers(self):
        chance = random.Random(110)
        seen = {}
        for gate in some_gates(chance, 250):
            for number in range(4):
                rooms = some_paper(chance, gate)
                told = fault(gate, rooms)
                self.assertEqual(told, fault_told(gate, rooms))
                word = told[0] if told else None
                seen[word] = seen.get(word, 0) + 1
        for word in (None, "begin", "two", "leaves"):
            self.assertGreater(seen[word], 30)

    def test_what_a_kept_paper_shows(self):
        chance = random.Random(130)
        kept = 0
        for gate in some_gates(chance, 300):
            rooms = some_paper(chance, gate)
            if fault(gate, rooms) is None:
                kept += 1
                held = {state for room in rooms for state in states_told(room)}
                self.assertLessEqual(set(weavings(gate)), held)
                self.assertIsNone(two_within(gate))
        self.assertGreater(kept, 20)

    def test_a_room_more_that_is_kept_by_itself(self):
        for gate, rooms in ((peterson(), peterson_paper()), (line_and_box(), paper(line_and_box()))):
            self.assertIsNone(fault(gate, rooms + [rooms[0]]))
        chance = random.Random(131)
        tried = 0
        for gate in some_gates(chance, 500):
            rooms = some_paper(chance, gate)
            whole = whole_room(gate)
            if fault(gate, rooms) is None and fault(gate, [whole]) is None:
                tried += 1
                more = rooms[:]
                more.insert(chance.randint(0, len(rooms)), whole)
                self.assertIsNone(fault(gate, more))
        self.assertGreater(tried, 10)

    def test_the_list_stays_as_it_is(self):
        chance = random.Random(111)
        for gate in some_gates(chance, 30):
            rooms = some_paper(chance, gate)
            ahead = copy.deepcopy(rooms)
            told = fault(gate, rooms)
            self.assertEqual(rooms, ahead)
            rooms.clear()
            self.assertEqual(fault(gate, ahead), told)


class Sizes(unittest.TestCase):

    def refused(self, gate, rooms):
        with self.assertRaises(GateError) as caught:
            fault(gate, rooms)
        self.assertIs(type(caught.exception), TooMany)

    def test_a_room_of_just_5000_states(self):
        gate = wide_gate((10, 10))
        room = wide_room(gate, (10, 5))
        self.assertEqual(fault(gate, [room]), ("two", 0))
        gate = Gate([(0, 9), (0, 9), (0, 4)], [(1, [IDLE] * 9 + [IN])])
        self.assertIsNone(fault(gate, [whole_room(gate)]))
        gate = Gate([(0, 9), (0, 9), (0, 4)], [(1, [IDLE] * 10 + [IN])])
        room = (whole_room(gate)[0], (tuple(range(10)),))
        self.assertEqual(fault(gate, [room]), ("leaves", 0, ((0, 0, 0), (9,)), 0))

    def test_a_room_of_the_next_size_that_there_is(self):
        gate = wide_gate((11, 13))
        self.refused(gate, [wide_room(gate, (5, 7))])
        self.assertEqual(fault(gate, [wide_room(gate, (5, 6))]), ("two", 0))

    def test_many_rooms_of_5000_states_in_all_more(self):
        gate = Gate([(0, 9), (0, 9), (0, 4)], [(1, [IDLE] * 9 + [IN])])
        self.assertIsNone(fault(gate, [whole_room(gate)] * 3))

    def test_ahead_of_all_other_faults(self):
        gate = wide_gate((11, 13))
        wide = wide_room(gate, (5, 7))
        far = ((tuple(range(1, 10)), tuple(range(1, 10))), wide[1])
        small = (((0,), (0,)), ((0,), (0,)))
        two = (((0,), (0,)), ((10,), (12,)))
        for rooms in ([far], [two, far], [small, two, wide], [small, wide], [wide, small], [small] * 5 + [far]):
            self.refused(gate, rooms)

    def test_rooms_far_too_great(self):
        gate = Gate([(0, 9)] * 12, [(1, [IDLE] * 23 + [IN])] * 4)
        self.refused(gate, [whole_room(gate)])
        self.refused(gate, [room_around([first_state(gate)]), whole_room(gate)])


class Papers(unittest.TestCase):

    def check_form(self, gate, rooms):
        self.assertIs(type(rooms), list)
        for room in rooms:
            self.assertIs(type(room), tuple)
            boxes, places = room
            self.assertEqual([type(boxes), type(places)], [tuple, tuple])
            mosts = [most for first, most in gate.boxes()] + [len(steps) - 1 for knock, steps in gate.hands()]
            self.assertEqual([len(boxes), len(places)], [len(gate.boxes()), gate.many()])
            for part, most in zip(boxes + places, mosts):
                self.assertIs(type(part), tuple)
                self.assertGreaterEqual(len(part), 1)
                self.assertEqual(list(part), sorted(set(part)))
                self.assertLessEqual(set(part), set(range(most + 1)))

    def test_ordinary_gates(self):
        for gate in (peterson(), flags(2), flags(3), flags(4), one_line(), counted(3), line_and_box()):
            rooms = paper(gate)
            self.check_form(gate, rooms)
            self.assertIsNone(fault(gate, rooms))
            self.assertIsNone(fault_told(gate, rooms) if len(rooms) < 200 else None)

    def test_two_within(self):
        for gate in (unguarded(2), unguarded(3), unguarded(4), wheels(0)):
            with self.assertRaises(GateError) as caught:
                paper(gate)
            self.assertIs(type(caught.exception), TwoWithin)
            self.assertEqual(caught.exception.weaving, two_within(gate))
        with self.assertRaises(TwoWithin) as caught:
            paper(unguarded(2))
        self.assertEqual(caught.exception.weaving, [0, 0, 1, 1])

    def test_many_gates(self):
        seen = {True: 0, False: 0}
        for gate in some_gates(random.Random(120), 200):
            weaving = two_within(gate)
            seen[weaving is None] += 1
            if weaving is None:
                rooms = paper(gate)
                self.check_form(gate, rooms)
                self.assertIsNone(fault_told(gate, rooms))
            else:
                with self.assertRaises(TwoWithin) as caught:
                    paper(gate)
                self.assertEqual(caught.exception.weaving, weaving)
        self.assertGreater(min(seen.values()), 30)

    def test_just_5000_states_and_one_more(self):
        self.assertEqual([len(weavings(lassos(first))) for first in (0, 1)], [5000, 5001])
        self.assertIsNone(fault(lassos(0), paper(lassos(0))))
        for gate in (lassos(1), wheels(1)):
            with self.assertRaises(GateError) as caught:
                paper(gate)
            self.assertIs(type(caught.exception), TooMany)

    def test_what_is_given_back_may_be_changed(self):
        gate = peterson()
        first, second = paper(gate), paper(gate)
        first.clear()
        self.assertEqual(paper(gate), second)
        with self.assertRaises(TwoWithin) as caught:
            paper(unguarded(2))
        caught.exception.weaving.clear()
        with self.assertRaises(TwoWithin) as caught:
            paper(unguarded(2))
        self.assertEqual(caught.exception.weaving, [0, 0, 1, 1])


if __name__ == "__main__":
    unittest.main()
