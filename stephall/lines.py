"""What a hall keeps of each line."""


class Line:
    """A line in one of seven ways, with what it dialled and what its call holds."""

    def __init__(self, number, place):
        self.number = number
        self.place = place
        self.held = []
        self.turn("rests")

    def turn(self, state):
        """Goes over to another way, with nothing left of what was dialled, met or told."""
        self.state = state
        self.dialled_so_far = ""
        self.pulses = 0
        self.far_end = None
        self.why = None

    def ring(self, called):
        """Rings another line."""
        self.state = "rings"
        self.far_end = called.number
        called.state = "rung"
        called.far_end = self.number

    def be_told(self, paper):
        """Is told that there is no call; what was dialled can still be asked."""
        self.state = "told"
        self.why = paper
