"""What is kept from call to call."""

from ringgather.moves import names_ahead
from ringgather.plays import against_them, fewest_moves, helping_them, most_moves
from ringgather.rings import is_together
from ringgather.sights import Field

MOST_KEPT = 60


class State:
    """The rings and eyes, how moves are, the rule of now, and the names that came."""

    def __init__(self):
        # None till a begin isn't refused.
        self.field = None
        self.moves = 0
        self.rule = []
        self.past = []

    def begin(self, places, eyes, robots, moves):
        """Start anew: all stay, and the ring is name 0."""
        self.field = Field(places, eyes, robots)
        self.moves = moves
        self.rule = [0] * len(self.field.views)
        self.past = [0]

    def name_now(self):
        """Tell which name the ring is."""
        return self.past[-1]

    def put(self, name):
        """Let the ring be a name, with none ahead of it."""
        self.past = [name]

    def come(self, name):
        """Let a name come; the first of all is forgotten when too many are kept."""
        self.past.append(name)
        if len(self.past) > MOST_KEPT:
            self.past.pop(0)

    def ahead_of(self, name):
        """List, rising, the names that may come of a name by one move."""
        return names_ahead(self.field, name, self.rule, self.moves)

    def ahead(self):
        """List, rising, the names that may come by one move."""
        return self.ahead_of(self.name_now())

    def rests(self):
        """Tell whether the robots are at rest together."""
        return is_together(self.field.names[self.name_now()]) and not self.ahead()

    def run(self, most, helped):
        """Let names come, so many at the most, chosen against them or helped: tell how many came."""
        names = self.field.names
        graph = [self.ahead_of(name) for name in range(len(names))]
        resting = [is_together(name) and not coming for name, coming in zip(names, graph)]
        moves = fewest_moves(graph, resting) if helped else most_moves(graph, resting)
        came = 0
        while came < most and graph[self.name_now()]:
            coming = graph[self.name_now()]
            self.come(helping_them(coming, moves) if helped else against_them(coming, moves))
            came += 1
        return came
