"""Where the expressions of a program stand, in a collapse that is written or judged."""


class Place:
    """Where an expression stands: what each name that it has leads to, and its site, None outside of rules."""

    def __init__(self, names, site):
        self.names = names
        self.site = site

    def bind(self, name, chosen):
        """Return a place that has one more name."""
        return Place({**self.names, name: chosen}, self.site)


class Site:
    """What a rule is about: an expression of the level below, and its place.

    known has what is known of each of the asks about it.
    """

    def __init__(self, below, place, known):
        self.below = below
        self.place = place
        self.known = known

    def part(self, number):
        """Return the part of a number."""
        return self.below.inner[number]

    def body_of_let(self):
        """Return the body of a let."""
        return self.below.inner[1]

    def place_of_body(self, chosen):
        """Return the place of the body of a let, with what its name leads to."""
        return self.place.bind(self.below.node[1], chosen)
