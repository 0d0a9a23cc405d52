"""All states that weavings come to, and the steps between them."""

from gatehands.errors import TooMany
from gatehands.graphs import way_to
from gatehands.walking import begin, done

MOST_STATES = 5000


class Map:
    """All states of a gate, in the order in which they are found; it never changes.

    For each state it keeps the numbers behind the hands' steps, and its source:
    the state by which it was found, and the hand whose step led to it.
    """

    def __init__(self, gate):
        self.found = [begin(gate)]
        self.sources = [None]
        self.behind = []
        numbers = {begin(gate): 0}
        while len(self.behind) < len(self.found):
            self.look_behind(gate, numbers)

    def look_behind(self, gate, numbers):
        """Do the hands' steps from the first state that none were done from."""
        ahead = len(self.behind)
        row = []
        for hand in range(gate.many()):
            state = done(gate, self.found[ahead], hand)
            if state not in numbers:
                if len(self.found) == MOST_STATES:
                    raise TooMany(f"there are more than {MOST_STATES} states")
                numbers[state] = len(self.found)
                self.found.append(state)
                self.sources.append((ahead, hand))
            row.append(numbers[state])
        self.behind.append(row)

    def states(self):
        """List all states, in the order of their numbers."""
        return list(self.found)

    def steps(self, number):
        """List the numbers of the states behind the hands' steps."""
        return list(self.behind[number])

    def weaving_to(self, number):
        """List the hands of the weaving by which this state was numbered."""
        return way_to(self.sources, number)
