"""Plays: in how many moves names come to rest together, and how moves are chosen.

A graph is a list that tells of each name which names may come of it by one move; it is given with
a list that tells of each name whether the robots are at rest together in it.
"""

from ringgather.rings import is_together


def resting_in(names, graph):
    """Tell of each name whether the robots are at rest together in it: nobody's eager if nothing may come."""
    return [is_together(name) and not coming for name, coming in zip(names, graph)]


def most_moves(graph, resting):
    """Tell of each name in how many moves at the most it gathers surely, or None if it doesn't."""
    most = [0 if rests else None for rests in resting]
    grown = True
    # A name is told only when all that may come of it are: what goes round, or ends apart, never is.
    while grown:
        grown = False
        for name, coming in enumerate(graph):
            if most[name] is None and coming and all([most[other] is not None for other in coming]):
                most[name] = 1 + max([most[other] for other in coming])
                grown = True
    return most


def fewest_moves(graph, resting):
    """Tell of each name in how few moves it can come to rest together, or None if it never can."""
    fewest = [0 if rests else None for rests in resting]
    moves = 0
    grown = True
    while grown:
        grown = False
        for name, coming in enumerate(graph):
            if fewest[name] is None and any([fewest[other] == moves for other in coming]):
                fewest[name] = moves + 1
                grown = True
        moves += 1
    return fewest


def sure_names(names, graph):
    """List, rising, the names that gather surely."""
    most = most_moves(graph, resting_in(names, graph))
    return [name for name, moves in enumerate(most) if moves is not None]


def against_them(coming, most):
    """Choose, of names that rise, the first that doesn't gather surely, or else takes the most moves."""
    for name in coming:
        if most[name] is None:
            return name
    return max(coming, key=lambda other: most[other])


def helping_them(coming, fewest):
    """Choose, of names that rise, the first of those that can come to rest together the soonest."""
    able = [name for name in coming if fewest[name] is not None]
    if not able:
        return coming[0]
    return min(able, key=lambda other: fewest[other])
