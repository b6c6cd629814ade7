"""What is kept from call to call."""

from ringgather.moves import graph_by, names_ahead
from ringgather.plays import against_them, fewest_moves, helping_them, most_moves, resting_in
from ringgather.rings import is_together
from ringgather.sights import Field
from ringgather.trials import trials_of

MOST_KEPT = 60


class State:
    """The rings and eyes, how moves are, the rule of now, the marked names, and the names that came."""

    def __init__(self):
        # None till a begin isn't refused.
        self.field = None
        self.moves = 0
        self.rule = []
        self.marked = []
        self.past = []
        self.tried = {}

    def begin(self, places, eyes, robots, moves):
        """Start anew: all stay, no names are marked, and the ring is name 0."""
        self.field = Field(places, eyes, robots)
        self.moves = moves
        self.rule = [0] * len(self.field.views)
        self.marked = []
        self.past = [0]

    def name_now(self):
        """Tell which name the ring is."""
        return self.past[-1]

    def put(self, name):
        """Let the ring be a name, with none ahead of it."""
        self.past = [name]

    def come(self, name):
        """Let a name come; the first of all is forgotten when too many are kept."""
        self.past.append(name)
        if len(self.past) > MOST_KEPT:
            self.past.pop(0)

    def ahead(self):
        """List, rising, the names that may come by one move."""
        return names_ahead(self.field, self.name_now(), self.rule, self.moves)

    def rests(self):
        """Tell whether the robots are at rest together."""
        return is_together(self.field.names[self.name_now()]) and not self.ahead()

    def graph(self):
        """Tell of each name which names may come of it by one move."""
        return graph_by(self.field, self.rule, self.moves)

    def moves_to_rest(self, graph, helped):
        """Tell of each name in how many moves it comes to rest together, the fewest if helped, else the most."""
        resting = resting_in(self.field.names, graph)
        return fewest_moves(graph, resting) if helped else most_moves(graph, resting)

    def moves_from_now(self, helped):
        """Tell it of the ring; None if it never can, or, when not helped, if it doesn't surely."""
        return self.moves_to_rest(self.graph(), helped)[self.name_now()]

    def run(self, most, helped):
        """Let names come, so many at the most, chosen against them or helped: tell how many came."""
        graph = self.graph()
        moves = self.moves_to_rest(graph, helped)
        came = 0
        while came < most and graph[self.name_now()]:
            coming = graph[self.name_now()]
            self.come(helping_them(coming, moves) if helped else against_them(coming, moves))
            came += 1
        return came

    def field_with(self, eyes):
        """Tell the same rings with such eyes."""
        return Field(self.field.places, eyes, self.field.robots)

    def trials(self, eyes, moves):
        """List the trials of all rules with such eyes and moves; kept, as many calls ask for the same ones."""
        asked = (self.field.places, eyes, self.field.robots, moves)
        if asked not in self.tried:
            self.tried[asked] = trials_of(self.field_with(eyes), moves)
        return self.tried[asked]

    def trials_now(self):
        """List the trials of all rules with the eyes and moves of now."""
        return self.trials(self.field.eyes, self.moves)
