"""Seekers, which go from place to place to whoever takes them."""

from stephall.switches import Switches


class Seekers(Switches):
    """So many seekers over so many places, taken round and round."""

    def __init__(self, many, places):
        Switches.__init__(self, many)
        self.places = places
        self.stands = [0] * many
        self.went = [0] * many
        self.mark_at = 0

    def take(self, place):
        """The seeker that the place takes and how many steps it goes there, as a pair, or None."""
        k = self.first_free(self.mark_at)
        if k is None:
            return None
        steps = (place - self.stands[k]) % self.places
        self.stands[k] = place
        self.went[k] += steps
        self.hold(k, place)
        self.mark_at = (k + 1) % len(self.stands)
        return (k, steps)

    def mark(self):
        """The number of the seeker at which the mark stands."""
        return self.mark_at

    def steps(self):
        """How many steps each went."""
        return list(self.went)
