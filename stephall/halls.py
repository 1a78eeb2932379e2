"""A hall, in which lines meet by seekers and by switches, deed by deed."""

from stephall.errors import NoLine, NoSwitch, NotSo
from stephall.figures import FIGURES, figure_of
from stephall.groups import Group
from stephall.lines import Line
from stephall.seekers import Seekers
from stephall.switches import paper_of

# The where of the seekers; no group's prefix is without signs.
AT_SEEKERS = ""

# In which ways of its line each deed can be done.
WAYS = {
    "lift": ("rests", "rung"),
    "pulse": ("dials",),
    "gap": ("dials",),
    "hang": ("waits", "dials", "rings", "talks", "told"),
}


class Hall:
    """The lines, the seekers and the groups of a plan, and what was done there."""

    def __init__(self, plan):
        self.long = plan.long
        self.lines = {number: Line(number, place) for place, number in enumerate(plan.lines)}
        self.switches = {prefix: Group(many) for prefix, many in plan.groups}
        self.switches[AT_SEEKERS] = Seekers(plan.seekers, len(plan.lines))
        self.queue = []
        self.done = []

    def do(self, deed):
        """All that comes of a deed, in order, or NoLine, NoSwitch, NotSo."""
        if deed[0] in ("stick", "mend"):
            answer = self.at_switch(deed[0], deed[1], deed[2])
        else:
            answer = self.at_line(deed[0], deed[1])
        self.done.append(deed)
        return answer + self.tones()

    def at_switch(self, word, where, k):
        """What comes of a deed at a switch, ahead of the tones, or NoSwitch."""
        if word == "stick":
            self.switches_of(where).stick(k)
        else:
            self.switches_of(where).mend(k)
        return []

    def at_line(self, word, number):
        """What comes of a deed at a line, ahead of the tones, or NoLine, NotSo."""
        line = self.line_of(number)
        if line.state not in WAYS[word]:
            raise NotSo(f"no {word} of a line in the way {line.state!r}")
        if word == "lift":
            return self.lift(line)
        if word == "pulse":
            return self.pulse(line)
        if word == "gap":
            return self.gap(line)
        return self.hang(line)

    def lift(self, line):
        """What comes of a lift: a wait, or a talk."""
        if line.state == "rests":
            return [self.wait(line)]
        caller = self.lines[line.far_end]
        caller.state = "talks"
        line.state = "talks"
        return [("talks", caller.number, line.number)]

    def pulse(self, line):
        """What comes of a pulse: nothing, unless there are more than tell a figure."""
        line.pulses += 1
        if line.pulses <= len(FIGURES):
            return []
        return self.no_call(line, "over")

    def gap(self, line):
        """What comes of a gap: one more figure, and where it leads, or NotSo."""
        if line.pulses == 0:
            raise NotSo("no gap where no pulse came")
        line.dialled_so_far += figure_of(line.pulses)
        line.pulses = 0
        many = len(line.dialled_so_far)
        if many <= self.long - 2:
            return self.into_group(line, line.dialled_so_far)
        if many < self.long:
            return [("figure", line.number, line.dialled_so_far)]
        return self.to_line(line, line.dialled_so_far)

    def into_group(self, line, figures):
        """What comes of figures that lead to a group."""
        if figures not in self.switches:
            return self.no_call(line, "none")
        group = self.switches[figures]
        k = group.take(line.number)
        if k is None:
            return self.busy(line, ("group", figures, group.paper()))
        line.held.append((figures, k))
        return [("takes", line.number, figures, k)]

    def to_line(self, line, figures):
        """What comes of figures that lead to a line."""
        if figures not in self.lines:
            return self.no_call(line, "none")
        called = self.lines[figures]
        if called.state != "rests":
            return self.busy(line, ("line", figures, called.state))
        line.ring(called)
        return [("rings", line.number, figures)]

    def no_call(self, line, word):
        """Tells a line `none` or `over`."""
        self.release(line)
        line.be_told((word, line.dialled_so_far))
        return [(word, line.number, line.dialled_so_far)]

    def busy(self, line, paper):
        """Tells a line busy with a paper, which was written ahead of the release."""
        self.release(line)
        line.be_told(paper)
        return [("busy", line.number, paper)]

    def hang(self, line):
        """What comes of hanging up, at this line and at the other end of its call."""
        told = [("rests", line.number)]
        if line.state == "waits":
            self.queue.remove(line.number)
        if line.far_end is not None:
            told.append(self.left_alone(self.lines[line.far_end]))
        self.release(line)
        line.turn("rests")
        return told

    def left_alone(self, other):
        """What comes of it for the other end of a call, when one hangs up."""
        # The other end may be the caller, and hold what the call holds.
        self.release(other)
        if other.state == "talks":
            return self.wait(other)
        other.turn("rests")
        return ("quiet", other.number)

    def wait(self, line):
        """Lets a line wait behind all that wait."""
        line.turn("waits")
        self.queue.append(line.number)
        return ("waits", line.number)

    def release(self, line):
        """Frees all that a line holds."""
        for where, k in line.held:
            self.switches[where].free(k)
        line.held = []

    def tones(self):
        """The tones of those that wait, the longest first, as long as there is a seeker."""
        told = []
        while self.queue:
            line = self.lines[self.queue[0]]
            taken = self.switches[AT_SEEKERS].take(line.place)
            if taken is None:
                return told
            k, steps = taken
            self.queue.pop(0)
            line.turn("dials")
            line.held.append((AT_SEEKERS, k))
            told.append(("tone", line.number, k, steps))
        return told

    def line_of(self, number):
        """The line with this number, or NoLine."""
        if number not in self.lines:
            raise NoLine(f"there is no line {number!r}")
        return self.lines[number]

    def switches_of(self, where):
        """The seekers, or the group of a prefix, or NoSwitch."""
        if where not in self.switches:
            raise NoSwitch(f"there is no group {where!r}")
        return self.switches[where]

    def way(self, line):
        """In which of the seven ways a line is, or NoLine."""
        return self.line_of(line).state

    def figures(self, line):
        """The figures that a caller dialled since its tone, or NoLine."""
        return self.line_of(line).dialled_so_far

    def holds(self, line):
        """The pairs (where, k) that a line holds, the seeker first, or NoLine."""
        return list(self.line_of(line).held)

    def other(self, line):
        """The other end of a line's call, or None, or NoLine."""
        return self.line_of(line).far_end

    def told_paper(self, line):
        """The paper of a line that is told, or None, or NoLine."""
        return self.line_of(line).why

    def paper(self, where):
        """Of each switch which line holds it, else `stuck` or `free`, or NoSwitch."""
        switches = self.switches_of(where)
        holders = switches.holders()
        if where == AT_SEEKERS:
            # Seekers know places alone.
            numbers = list(self.lines)
            holders = [None if place is None else numbers[place] for place in holders]
        return paper_of(holders, switches.stuck())

    def shares(self, where):
        """How often each switch was taken so far, or NoSwitch."""
        return self.switches_of(where).shares()

    def waiting(self):
        """The lines that wait, those that wait longest first."""
        return list(self.queue)

    def steps(self):
        """How many steps each seeker went so far."""
        return self.switches[AT_SEEKERS].steps()

    def deeds(self):
        """All deeds that were done, in order."""
        return list(self.done)
