"""The calls and the waits that a row of deeds leads to."""

from stephall.halls import Hall
from stephall.reports import answer_of

# What brings a line, as its third part, the figures that it dialled so far.
WITH_FIGURES = ("takes", "figure", "rings", "over", "none")
# What ends the call of a line, and how.
CALL_ENDS = {"over": "over", "none": "none", "busy": "busy", "rests": "hung", "waits": "left"}
# What ends the wait of a line, and how.
WAIT_ENDS = {"tone": "tone", "rests": "hung"}


class Call:
    """A call from its tone on, as far as it has come."""

    def __init__(self, line, k, begin):
        self.line = line
        self.k = k
        self.begin = begin
        self.dialled_so_far = ""
        self.called = None
        self.rung = None
        self.talked = None
        self.end = None
        self.how = "on"

    def follow(self, come, place):
        """Goes on by what came to its line behind the deed at a place."""
        word = come[0]
        if word in WITH_FIGURES:
            self.dialled_so_far = come[2]
        if word == "busy":
            self.dialled_so_far = come[2][1]
        if word == "rings":
            self.called = come[2]
            self.rung = place
        if word == "talks":
            self.talked = place
        if word in CALL_ENDS:
            self.end = place
            self.how = CALL_ENDS[word]

    def told(self):
        """The call as a tuple."""
        return (
            self.line, self.k, self.begin, self.dialled_so_far, self.called, self.rung, self.talked, self.end, self.how
        )


def comes_of(plan, deeds):
    """All that comes of a row of deeds, as pairs of a deed's place and a tuple."""
    hall = Hall(plan)
    comes = []
    for place, deed in enumerate(deeds):
        comes.extend([(place, come) for come in answer_of(hall, deed) or []])
    return comes


def calls_of(plan, deeds):
    """All calls of a row of deeds, in the order of their tones."""
    calls = []
    # By the line that had the tone; so the called end's own waits and rests touch no call.
    going = {}
    for place, come in comes_of(plan, deeds):
        line = come[1]
        if come[0] == "tone":
            going[line] = Call(line, come[2], place)
            calls.append(going[line])
        elif line in going:
            going[line].follow(come, place)
            if going[line].end is not None:
                del going[line]
    return [call.told() for call in calls]


def waits_of(plan, deeds):
    """All waits of a row of deeds, in the order in which they began."""
    waits = []
    # Of each line that waits, where its wait stands among them.
    going = {}
    for place, come in comes_of(plan, deeds):
        word, line = come[0], come[1]
        if word == "waits":
            going[line] = len(waits)
            waits.append((line, place, None, "on"))
        elif word in WAIT_ENDS and line in going:
            at = going.pop(line)
            waits[at] = (line, waits[at][1], place, WAIT_ENDS[word])
    return waits
