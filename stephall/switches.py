"""What seekers and the switches of a group have in common."""

from stephall.checks import within
from stephall.errors import NoSwitch


class Switches:
    """Switches numbered from 0, each held by somebody or by nobody, each stuck or not."""

    def __init__(self, many):
        self.held_by = [None] * many
        self.jammed = [False] * many
        self.taken = [0] * many

    def first_free(self, start):
        """The first one, from start on and round, that is neither held nor stuck, or None."""
        for k in list(range(start, len(self.held_by))) + list(range(start)):
            if self.held_by[k] is None and not self.jammed[k]:
                return k
        return None

    def hold(self, k, who):
        """Lets who hold switch k, and counts it."""
        self.held_by[k] = who
        self.taken[k] += 1

    def free(self, k):
        """Nobody holds switch k any more, or NoSwitch."""
        self.check(k)
        if self.held_by[k] is None:
            raise NoSwitch(f"nobody holds switch {k}")
        self.held_by[k] = None

    def stick(self, k):
        """Switch k is stuck, whoever holds it, or NoSwitch."""
        self.check(k)
        self.jammed[k] = True

    def mend(self, k):
        """Switch k is not stuck, or NoSwitch."""
        self.check(k)
        self.jammed[k] = False

    def check(self, k):
        """NoSwitch where k is the number of no switch."""
        if not within(k, 0, len(self.held_by) - 1):
            raise NoSwitch(f"there are {len(self.held_by)} switches, numbered from 0")

    def holders(self):
        """Of each switch who holds it, or None."""
        return list(self.held_by)

    def stuck(self):
        """The numbers of those that are stuck, rising."""
        return [k for k, jammed in enumerate(self.jammed) if jammed]

    def shares(self):
        """How often each was taken."""
        return list(self.taken)


def paper_of(holders, stuck):
    """Of each switch who holds it, else whether it is stuck or free."""
    paper = []
    for k, who in enumerate(holders):
        if who is not None:
            paper.append(who)
        else:
            paper.append("stuck" if k in stuck else "free")
    return tuple(paper)
