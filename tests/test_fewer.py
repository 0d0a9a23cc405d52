"""Promises 14 and 15 (points 12 and 13): gates of one box are broken, and how many are, and how."""

import itertools
import random
import unittest

from gatehands.errors import GateError, OtherGate
from gatehands.fewer import breaker, tries
from gatehands.gates import Gate
from gatehands.walking import played, within
from tests.some_gates import (
    FAR, IDLE, IN, first_state, flags, is_within, one_line, peterson, some_boxes, some_hand, stepped, unguarded,
)

ANY = tuple(range(10))
GOES_IN = [IDLE, IDLE, IN]
STUCK = [IDLE, ("go", 0, (0, 1, 2), 1), IN]
WAITS_FOR_1 = [IDLE, ("go", 0, (0, 2), 1), IN]
PUTS_1 = [("put", 0, 1), IN, ("put", 0, 0)]


def gate_of(*programs, box=(0, 2)):
    return Gate([box], [(1, steps) for steps in programs])


def signs(first=0):
    """Each hand waits until the box is 0, puts its sign there, and goes in if it still stands."""
    hands = [[IDLE, ("go", 0, (1, 2), 1), ("put", 0, mine), ("go", 0, (0, 3 - mine), 1), IN, ("put", 0, 0)]
             for mine in (1, 2)]
    return gate_of(*hands, box=(first, 2))


def in_the_second_round():
    """A hand that passes by its ("in",) until it has put 1 in the box."""
    return [IDLE, ("go", 0, (0,), 3), IN, ("put", 0, 1)]


def long_program():
    """A hand that alone does 140 steps until it is within: with each number all reads are gone through, but one put.

    At places 3 to 21 are reads a and puts in turn. The reads go round: a of even numbers, one more, a of odd
    numbers, two more. A number leaves the round at one read, where it falls to the put behind it.
    """
    put_there = {4 + 2 * slot: 9 - slot for slot in range(9)}
    leaving = {3 + 2 * slot: 8 - slot for slot in range(9)}
    leaving[22] = 9
    ways = [3 + 4 * slot for slot in range(5)] + [22] + [5 + 4 * slot for slot in range(5)] + [1, 2]
    steps = [("go", 0, (0,), 22)]
    for place in range(1, 23):
        if place in put_there:
            steps.append(("put", 0, put_there[place]))
        else:
            numbers = tuple(number for number in ANY if number != leaving.get(place))
            steps.append(("go", 0, numbers, ways[(ways.index(place) + 1) % len(ways)]))
    return steps + [IN]


def steps_alone(gate, hand):
    """How many steps a hand does alone until it is within; None if it never is."""
    state = first_state(gate)
    for number in range(24 * 10):
        if is_within(gate, state, hand):
            return number
        state = stepped(gate, state, hand)
    return None


def tries_told(most, ahead, after):
    """Each program is told, and played alone until it has done more steps than it has states."""
    numbers = range(most + 1)
    puts = [("put", 0, number) for number in numbers]
    places = [puts + [("go", 0, (number,), place) for number in numbers] for place in range(1, ahead + 1)]
    counts = [0, 0]
    for steps in itertools.product([IDLE], *places, [IN], *[puts] * after):
        hand = (1, list(steps))
        counts[steps_alone(Gate([(0, most)], [hand, hand]), 0) is None] += 1
    return (sum(counts), *counts)


class BreakerTest(unittest.TestCase):

    def two(self, gate):
        word, weaving = breaker(gate)
        self.assertEqual(word, "two")
        self.assertIs(type(weaving), list)
        self.assertLessEqual(len(weaving), 301)
        state = first_state(gate)
        for hand in weaving:
            state = stepped(gate, state, hand)
        self.assertTrue(is_within(gate, state, 0) and is_within(gate, state, 1), weaving)
        self.assertLessEqual({0, 1}, set(within(gate, played(gate, weaving)[-1])))

    def refused(self, action, *arguments):
        with self.assertRaises(GateError) as caught:
            action(*arguments)
        self.assertIs(type(caught.exception), OtherGate)


class Two(BreakerTest):

    def test_hands_that_wait_for_each_other(self):
        self.two(signs())

    def test_hands_that_put_nothing(self):
        self.two(gate_of(GOES_IN, GOES_IN))
        self.two(gate_of([IDLE, ("go", 0, (1, 2), 1), IN], [IDLE, ("go", 0, (1,), 1), IN]))

    def test_one_that_puts_nothing_beside_one_that_does(self):
        looks = [IDLE, ("go", 0, (1, 2), 1), IN, ("put", 0, 0)]
        self.two(gate_of(looks, PUTS_1))
        self.two(gate_of(PUTS_1, looks))

    def test_puts_at_step_0_and_right_ahead_of_in(self):
        self.two(gate_of(PUTS_1, PUTS_1))
        late = [IDLE, ("go", 0, (1,), 1), ("put", 0, 1), IN, ("put", 0, 0)]
        self.two(gate_of(late, late))
        self.two(gate_of(late, PUTS_1))
        self.two(gate_of(PUTS_1, late))

    def test_many_puts_on_the_way(self):
        many = [("put", 0, 2), ("go", 0, (0, 1), 1), ("put", 0, 1), ("go", 0, (0, 2), 3), ("put", 0, 2),
                ("go", 0, (0, 1), 5), IN, ("put", 0, 0)]
        self.two(gate_of(many, many))
        self.two(gate_of(many, [IDLE, ("go", 0, (1, 2), 1), IN]))

    def test_within_in_the_second_round(self):
        self.two(gate_of(in_the_second_round(), in_the_second_round()))
        self.two(gate_of(in_the_second_round(), GOES_IN))

    def test_only_hands_0_and_1_matter(self):
        for others in ([STUCK], [STUCK, STUCK], [GOES_IN, STUCK], [PUTS_1, PUTS_1]):
            self.two(gate_of(PUTS_1, GOES_IN, *others))

    def test_a_hand_that_is_shut_later_only(self):
        # Alone it comes within from the first state on, and never again.
        once = [IDLE, ("go", 0, (1,), 1), IN, ("put", 0, 1)]
        self.two(gate_of(once, once))

    def test_no_weaving_of_more_than_301_steps(self):
        gate = gate_of(long_program(), long_program(), box=(0, 9))
        self.assertEqual([steps_alone(gate, hand) for hand in (0, 1)], [140, 140])
        self.two(gate)


class Shut(BreakerTest):

    def test_hand_0(self):
        self.assertEqual(breaker(gate_of(STUCK, GOES_IN)), ("shut", 0))
        self.assertEqual(breaker(gate_of([("put", 0, 2), ("go", 0, (2,), 1), IN], PUTS_1)), ("shut", 0))

    def test_hand_1(self):
        self.assertEqual(breaker(gate_of(GOES_IN, STUCK)), ("shut", 1))
        self.assertEqual(breaker(gate_of(PUTS_1, WAITS_FOR_1)), ("shut", 1))

    def test_both_hands(self):
        self.assertEqual(breaker(gate_of(STUCK, STUCK)), ("shut", 0))
        self.assertEqual(breaker(gate_of(WAITS_FOR_1, STUCK, GOES_IN)), ("shut", 0))

    def test_one_that_another_would_help(self):
        self.assertEqual(breaker(gate_of(WAITS_FOR_1, PUTS_1)), ("shut", 0))

    def test_one_that_goes_round_and_passes_by(self):
        passes = [IDLE, ("go", 0, (0,), 3), IN, IDLE]
        self.assertEqual(breaker(gate_of(passes, GOES_IN)), ("shut", 0))
        puts_it_back = [("put", 0, 0), ("go", 0, (0,), 3), IN, ("put", 0, 1)]
        self.assertEqual(breaker(gate_of(GOES_IN, puts_it_back)), ("shut", 1))

    def test_hands_2_and_3_are_not_asked_for(self):
        self.assertEqual(breaker(gate_of(GOES_IN, GOES_IN, STUCK, STUCK))[0], "two")
        self.assertEqual(breaker(gate_of(GOES_IN, STUCK, STUCK, GOES_IN)), ("shut", 1))

    def test_the_number_that_the_box_holds_at_first(self):
        self.assertEqual(breaker(signs(0))[0], "two")
        for first in (1, 2):
            self.assertEqual(breaker(signs(first)), ("shut", 0))
        self.assertEqual(breaker(gate_of(WAITS_FOR_1, WAITS_FOR_1, box=(1, 2)))[0], "two")


class AnyGates(BreakerTest):

    def test_many_gates(self):
        chance = random.Random(140)
        seen = {"two": 0, ("shut", 0): 0, ("shut", 1): 0}
        for number in range(3000):
            boxes = some_boxes(chance, 1, chance.choice((1, 2, 9)))
            many = chance.choice((2, 2, 2, 3, 4))
            gate = Gate(boxes, [some_hand(chance, boxes, 2, chance.choice((5, 9, 24))) for hand in range(many)])
            shut = [hand for hand in (0, 1) if steps_alone(gate, hand) is None]
            if shut:
                self.assertEqual(breaker(gate), ("shut", shut[0]))
                seen[("shut", shut[0])] += 1
            else:
                self.two(gate)
                seen["two"] += 1
        self.assertGreater(min(seen.values()), 300)

    def test_other_gates(self):
        hand = (1, PUTS_1)
        for boxes in range(1, 13):
            for hands in range(1, 5):
                gate = Gate([(0, 1)] * boxes, [hand] * hands)
                if boxes > 1 or hands < 2:
                    self.refused(breaker, gate)
                else:
                    self.two(gate)
        for gate in (one_line(), peterson(), flags(2), flags(4), unguarded(1)):
            self.refused(breaker, gate)

    def test_what_is_given_back_may_be_changed(self):
        gate = signs()
        first, second = breaker(gate), breaker(gate)
        first[1].clear()
        self.assertEqual(breaker(gate), second)


class Tries(BreakerTest):

    def test_by_hand(self):
        # Of ("put", 0, 0), ("put", 0, 1), and waits while the box holds 0 or 1 only the wait for 0 is shut.
        self.assertEqual(tries(1, 1, 0), (4, 3, 1))
        self.assertEqual(tries(0, 0, 0), (1, 1, 0))
        self.assertEqual(tries(0, 1, 0), (2, 1, 1))
        self.assertEqual(tries(1, 0, 1), (2, 2, 0))
        self.assertEqual(tries(1, 2, 1), (32, 18, 14))

    def test_all_small_numbers(self):
        for most in range(4):
            for ahead in range(4):
                for after in range(4):
                    if (2 * (most + 1)) ** ahead * (most + 1) ** after <= 512:
                        self.assertEqual(tries(most, ahead, after), tries_told(most, ahead, after))

    def test_numbers_0_and_9(self):
        for numbers in ((9, 1, 0), (9, 0, 2), (9, 1, 1), (0, 9, 0), (0, 0, 9), (1, 0, 9), (0, 2, 9), (9, 0, 0)):
            self.assertEqual(tries(*numbers), tries_told(*numbers))
        self.assertEqual(tries(0, 9, 9), (512, 1, 511))
        self.assertEqual(tries(9, 2, 1), (4000, 3610, 390))

    def test_just_4096_gates(self):
        self.assertEqual(tries(1, 6, 0), (4096, 729, 3367))
        self.assertEqual(tries(1, 2, 8), (4096, 2304, 1792))
        self.assertEqual(tries(3, 0, 6), (4096, 4096, 0))
        self.assertEqual(tries(3, 4, 0), (4096, 2401, 1695))
        self.assertEqual(tries(7, 3, 0), (4096, 3375, 721))
        self.assertEqual(tries(7, 0, 4), (4096, 4096, 0))

    def test_more_than_4096_gates(self):
        for numbers in ((1, 6, 1), (3, 4, 1), (8, 0, 4), (2, 0, 8), (4, 3, 1), (1, 7, 0), (7, 3, 1), (9, 0, 4),
                        (9, 9, 9), (9, 3, 0), (1, 2, 9), (2, 3, 3)):
            self.refused(tries, *numbers)

    def test_numbers_that_are_not_from_0_to_9(self):
        for number in (-1, -2, 10, 11, *FAR, -FAR[0], -FAR[1]):
            for numbers in ((number, 0, 0), (0, number, 0), (0, 0, number), (number,) * 3, (-1, number, -1)):
                self.refused(tries, *numbers)
        for numbers in ((1, 1, -1), (1, -1, 1), (-1, 1, 1), (0, 10, 0), (0, 0, 10), (10, 1, 1), (-2, 1, 2)):
            self.refused(tries, *numbers)


if __name__ == "__main__":
    unittest.main()
