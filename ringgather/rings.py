"""Rings of places: their rows, their names, and what a move makes of them.

A ring is a tuple that tells how many robots are at each place.
"""


def row_from(ring, place, step):
    """Tell a ring's numbers from a place on, one way round: step 1, or -1 for the other way."""
    size = len(ring)
    return tuple([ring[(place + step * i) % size] for i in range(size)])


def rings_like(ring):
    """List all rings that are this one, turned or mirrored; one may stand there several times."""
    rings = []
    for place in range(len(ring)):
        rings.append(row_from(ring, place, 1))
        rings.append(row_from(ring, place, -1))
    return rings


def name_of(ring):
    """Tell the first of all rings that are this one, turned or mirrored."""
    return min(rings_like(ring))


def with_robot(ring, place):
    """Tell the ring that has one robot more at a place."""
    changed = list(ring)
    changed[place] += 1
    return tuple(changed)


def with_gone(ring, place, end):
    """Tell the ring in which one robot has gone from a place to another."""
    changed = list(ring)
    changed[place] -= 1
    changed[end] += 1
    return tuple(changed)


def names_of(places, robots):
    """List, in order, all names of so many robots on so many places."""
    names = [(0,) * places]
    for robot in range(robots):
        # Taking one robot away leaves a ring that has a name already, so adding one to names misses none.
        larger = {}
        for name in names:
            for place in range(places):
                larger[name_of(with_robot(name, place))] = True
        names = sorted(larger)
    return names


def is_together(ring):
    """Tell whether all robots are at one place."""
    return max(ring) == sum(ring)


def is_apart(ring):
    """Tell whether no two robots are at one place."""
    return max(ring) == 1
