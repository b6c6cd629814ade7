"""What robots see: their eyes, their views, and which way round the lesser row goes."""

from ringgather.rings import names_of, rings_like, row_from


def seen(count, eyes):
    """Tell what such eyes tell of a place with so many robots."""
    if eyes == 0:
        return count
    if eyes == 1:
        return min(count, 2)
    return min(count, 1)


class Sight:
    """What a robot at a place of a ring sees."""

    def __init__(self, ring, place, eyes):
        shown = [seen(count, eyes) for count in ring]
        onward = row_from(shown, place, 1)
        backward = row_from(shown, place, -1)
        self.place = place
        self.lesser = min(onward, backward)
        self.even = onward == backward
        self.way = 1 if onward <= backward else -1


def sights_of(ring, eyes):
    """List what is seen from each place that has a robot, in the order of the places."""
    return [Sight(ring, place, eyes) for place in range(len(ring)) if ring[place] > 0]


def numbers_of_rings(names):
    """Tell of every ring the number of its name."""
    numbers = {}
    for number, name in enumerate(names):
        for ring in rings_like(name):
            numbers[ring] = number
    return numbers


class Field:
    """What doesn't change between two begins: the names, the views, and who has which view where.

    Names and views are told by their numbers: names[i] is the i-th name, views[v] the lesser row
    of view v, evens[v] whether it is even-handed, and sights[i] what is seen in the i-th name.
    """

    def __init__(self, places, eyes, robots):
        self.places = places
        self.eyes = eyes
        self.robots = robots
        self.names = names_of(places, robots)
        self.name_numbers = numbers_of_rings(self.names)
        self.sights = [sights_of(name, eyes) for name in self.names]
        evens = {}
        for sights in self.sights:
            for sight in sights:
                evens[sight.lesser] = sight.even
        self.views = sorted(evens)
        self.evens = [evens[row] for row in self.views]
        self.view_numbers = {}
        for number, row in enumerate(self.views):
            self.view_numbers[row] = number

    def has_name(self, number):
        """Tell whether there is a name of that number."""
        return number < len(self.names)

    def has_view(self, number):
        """Tell whether there is a view of that number."""
        return number < len(self.views)

    def views_in(self, name):
        """List the views that robots have in a name, each once, in the order in which they're had."""
        had = {}
        for sight in self.sights[name]:
            had[self.view_numbers[sight.lesser]] = True
        return list(had)
