"""Papers: lists of rooms, which show that never two are within if no step leads out of them."""

from gatehands.choices import choices, many_choices
from gatehands.errors import TooMany, TwoWithin
from gatehands.looking import two_within
from gatehands.maps import MOST_STATES, Map
from gatehands.walking import begin, done


def fault(gate, rooms):
    """Tell why a paper is not kept; None if it is."""
    check_sizes(rooms)
    held = {state: True for room in rooms for state in states_of(room)}
    if begin(gate) not in held:
        return ("begin",)
    for number, room in enumerate(rooms):
        if two_may_be_within(gate, room):
            return "two", number
    for number, room in enumerate(rooms):
        leaving = step_out(gate, room, held)
        if leaving is not None:
            state, hand = leaving
            return "leaves", number, state, hand
    return None


def paper(gate):
    """List the rooms of a paper that is kept: each state that weavings come to is a room."""
    weaving = two_within(gate)
    if weaving is not None:
        raise TwoWithin(weaving)
    return [room_of(state) for state in Map(gate).states()]


def check_sizes(rooms):
    """Refuse rooms of too many states, ahead of a look at any state."""
    for boxes, places in rooms:
        if many_choices(boxes) * many_choices(places) > MOST_STATES:
            raise TooMany(f"a room has more than {MOST_STATES} states")


def states_of(room):
    """List the states of a room, rising."""
    boxes, places = room
    return [(numbers, steps) for numbers in choices(boxes) for steps in choices(places)]


def room_of(state):
    """Tell the room that has just this state."""
    boxes, places = state
    return tuple([(number,) for number in boxes]), tuple([(place,) for place in places])


def two_may_be_within(gate, room):
    """Tell whether two hands or more are within in some state of the room."""
    boxes, places = room
    return len([hand for hand, steps in enumerate(places) if gate.insides[hand] in steps]) >= 2


def step_out(gate, room, held):
    """Tell the first state and hand whose step leads to a state that no room holds; None if there is none."""
    for state in states_of(room):
        for hand in range(gate.many()):
            if done(gate, state, hand) not in held:
                return state, hand
    return None
