"""A keeper of deeds, which can be taken back and done again."""

from stephall.errors import NothingLeft
from stephall.halls import Hall
from stephall.plans import Plan
from stephall.reports import done_again


class Keeper:
    """A hall of a plan, with the deeds that led there and those that were taken back."""

    def __init__(self, plan):
        # A copy, since whoever handed the plan in may change its values behind that.
        self.plan = Plan(plan.long, list(plan.lines), plan.seekers, list(plan.groups))
        self.own_hall = Hall(self.plan)
        self.taken_back = []

    def do(self, deed):
        """All that comes of a deed, or refused as a hall does."""
        answer = self.own_hall.do(deed)
        # Only now: a deed that is refused leaves what can be done again.
        self.taken_back = []
        return answer

    def back(self):
        """Takes the last deed back, or NothingLeft."""
        deeds = self.deeds()
        if not deeds:
            raise NothingLeft("there is no deed to be taken back")
        self.taken_back.append(deeds.pop())
        # Not undone but done anew up to there: so all is as ahead of it, shares, steps and the mark, too.
        self.own_hall = done_again(self.plan, deeds)

    def again(self):
        """All that comes of the deed that was taken back last, done again, or NothingLeft."""
        if not self.taken_back:
            raise NothingLeft("there is no deed to be done again")
        return self.own_hall.do(self.taken_back.pop())

    def deeds(self):
        """All deeds that are done and not taken back, in order."""
        return self.own_hall.deeds()

    def left(self):
        """How many deeds can be taken back, and how many done again."""
        return (len(self.deeds()), len(self.taken_back))

    def hall(self):
        """A hall of the asker's own, as the keeper's is."""
        return done_again(self.plan, self.deeds())
