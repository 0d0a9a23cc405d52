"""Ways through numbered nodes, where a list tells for each node those behind it."""


def turned(behind):
    """Tell for each node a list of those that lead to it."""
    ahead = [[] for row in behind]
    for node, row in enumerate(behind):
        for other in row:
            ahead[other].append(node)
    return ahead


def leading_to(behind, goals):
    """Tell for each node whether some way from it comes to a goal; goals tells for each node if it is one."""
    ahead = turned(behind)
    leads = list(goals)
    todo = [node for node, goal in enumerate(goals) if goal]
    while todo:
        node = todo.pop()
        for other in ahead[node]:
            if not leads[other]:
                leads[other] = True
                todo.append(other)
    return leads


def left_in_turn(behind):
    """List the nodes as a search into the depth leaves them."""
    turn = []
    seen = set()
    todo = [(node, False) for node in range(len(behind))]
    while todo:
        node, left = todo.pop()
        if left:
            turn.append(node)
        elif node not in seen:
            seen.add(node)
            todo.append((node, True))
            todo.extend([(other, False) for other in behind[node]])
    return turn


def groups(behind):
    """List the groups of nodes that lead to each other, each group ahead of those that it leads to.

    Against the ways, a node left last leads only to its own group and to those
    that are told already.
    """
    ahead = turned(behind)
    told = []
    seen = set()
    for first in reversed(left_in_turn(behind)):
        group = []
        todo = [first]
        while todo:
            node = todo.pop()
            if node not in seen:
                seen.add(node)
                group.append(node)
                todo.extend(ahead[node])
        if group:
            told.append(group)
    return told


def shortest_way(ways, start, goals):
    """List the hands that lead from a node to the nearest goal; there must be a way to one.

    ways tells for each node a list of pairs: a hand, and the node behind its step.
    """
    wanted = set(goals)
    sources = {start: None}
    found = [start]
    at = 0
    while found[at] not in wanted:
        node = found[at]
        for hand, behind in ways[node]:
            if behind not in sources:
                sources[behind] = (node, hand)
                found.append(behind)
        at += 1
    return way_to(sources, found[at])


def way_to(sources, node):
    """List the hands that lead to a node, where sources tells for each node the one ahead of it and the hand."""
    way = []
    while sources[node] is not None:
        node, hand = sources[node]
        way.append(hand)
    return way[::-1]
