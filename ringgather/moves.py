"""Moves: who is eager by a rule, and which names may come when some of them go.

A rule is a list that tells of each view 0 (stay), 1 or 2; moves are 0 (one goes), 1 (some), 2 (all).
"""

from ringgather.rings import with_gone


def ends_of(sight, told, size):
    """List the places to which a robot that sees so may go by what it is told; none if it stays."""
    by_lesser = (sight.place + sight.way) % size
    by_other = (sight.place - sight.way) % size
    if told == 0:
        return []
    if sight.even:
        return [by_lesser, by_other]
    if told == 1:
        return [by_lesser]
    return [by_other]


def eager_in(field, name, rule):
    """List for each eager robot of a name the place where it is, and the places to which it may go."""
    ring = field.names[name]
    eager = []
    for sight in field.sights[name]:
        ends = ends_of(sight, rule[field.view_numbers[sight.lesser]], len(ring))
        if ends:
            for robot in range(ring[sight.place]):
                eager.append((sight.place, ends))
    return eager


def ways_of(ring, eager):
    """List what may come of a ring when any of the eager go: how many went, and the ring then."""
    ways = {(0, ring): True}
    for place, ends in eager:
        more = {}
        for gone, now in ways:
            more[(gone, now)] = True
            for end in ends:
                more[(gone + 1, with_gone(now, place, end))] = True
        ways = more
    return list(ways)


def is_move(gone, eager, moves):
    """Tell whether it is a move if so many go of so many that are eager."""
    if moves == 0:
        return gone == 1
    if moves == 1:
        return gone >= 1
    return gone >= 1 and gone == eager


def names_ahead(field, name, rule, moves):
    """List, rising, the names that may come of a name by one move."""
    eager = eager_in(field, name, rule)
    coming = {}
    for gone, ring in ways_of(field.names[name], eager):
        if is_move(gone, len(eager), moves):
            coming[field.name_numbers[ring]] = True
    return sorted(coming)


def graph_by(field, rule, moves):
    """Tell of each name which names may come of it by one move."""
    return [names_ahead(field, name, rule, moves) for name in range(len(field.names))]
