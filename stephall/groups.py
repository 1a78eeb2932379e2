"""Groups of switches, of which always the first free one is taken."""

from stephall.switches import Switches, paper_of


class Group(Switches):
    """The switches of one prefix."""

    def take(self, who):
        """The number of the switch that who takes, or None."""
        k = self.first_free(0)
        if k is not None:
            self.hold(k, who)
        return k

    def paper(self):
        """Of each switch who holds it, else `stuck` or `free`."""
        return paper_of(self.holders(), self.stuck())
