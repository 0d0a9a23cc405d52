"""How often others come within while a hand waits."""

from gatehands.graphs import groups, shortest_way
from gatehands.maps import Map
from gatehands.walking import check_hand, waiting, within


def passed(gate, hand):
    """Tell how often others can come within while a hand waits, or that there is no end of it."""
    check_hand(gate, hand)
    drawn = Map(gate)
    ways = ways_while_waiting(gate, drawn, hand)
    circles = groups([[behind for mover, behind, came in row] for row in ways])
    start = start_of_ring(ways, circles)
    if start is not None:
        return "endless", drawn.weaving_to(start), ring_from(ways, start)
    counts = most_from(ways, circles)
    return "most", max(counts), weaving_of_most(drawn, ways, counts)


def ways_while_waiting(gate, drawn, hand):
    """List for each state the steps on which the hand waits, ahead of them and behind them.

    A step is told as who does it, the number of the state behind it, and came: 1
    if another hand comes within by it, else 0. (The hand itself never is, as it waits.)
    """
    states = drawn.states()
    waits = [hand in waiting(gate, state) for state in states]
    ways = []
    for number in range(len(states)):
        row = []
        for mover, behind in enumerate(drawn.steps(number)):
            if waits[number] and waits[behind]:
                row.append((mover, behind, 1 if mover in within(gate, states[behind]) else 0))
        ways.append(row)
    return ways


def start_of_ring(ways, circles):
    """Tell the least number of a state on a ring by which others come within; None if there is none."""
    return min([min(circle) for circle in circles if comes_inside(ways, circle)], default=None)


def comes_inside(ways, circle):
    """Tell whether another hand comes within by a step between two states of a circle."""
    members = set(circle)
    return any([came == 1 and behind in members for number in circle for mover, behind, came in ways[number]])


def ring_from(ways, start):
    """List the hands of a shortest ring from a state by which another comes within.

    A node tells a state, and whether another hand has come within so far.
    """
    nodes = {}
    for number, row in enumerate(ways):
        nodes[(number, 0)] = [(mover, (behind, came)) for mover, behind, came in row]
        nodes[(number, 1)] = [(mover, (behind, 1)) for mover, behind, came in row]
    return shortest_way(nodes, (start, 0), [(start, 1)])


def most_from(ways, circles):
    """Tell for each state how often others can come within from there on, if they never do on a ring."""
    counts = [0] * len(ways)
    for circle in reversed(circles):
        most = max([came + counts[behind] for number in circle for mover, behind, came in ways[number]], default=0)
        for number in circle:
            counts[number] = most
    return counts


def weaving_of_most(drawn, ways, counts):
    """List the hands of a shortest weaving in whose last states others come within most often.

    A node tells a state, and whether the last states have begun. From there on
    only steps behind which the most can still be come to are done.
    """
    most = max(counts)
    if most == 0:
        return []
    nodes = {}
    for number, row in enumerate(ways):
        steps = list(enumerate(drawn.steps(number)))
        nodes[(number, 0)] = [(mover, (behind, 0)) for mover, behind in steps]
        nodes[(number, 0)] += [(mover, (behind, 1)) for mover, behind in steps if counts[behind] == most]
        nodes[(number, 1)] = [(mover, (behind, 1)) for mover, behind, came in row
                              if came + counts[behind] == counts[number]]
    return shortest_way(nodes, (0, 0), [(number, 1) for number, count in enumerate(counts) if count == 0])
