"""Standings: a world in the midst of the tick that is being made."""


class Standing:
    """What the stages and the handlers of a tick lead from one to the next. It never changes."""

    def __init__(self, tick, seed, shared, bodies, said, asked, leaving):
        self.tick = tick
        self.seed = seed
        self.shared = shared
        self.bodies = bodies
        self.said = said
        self.asked = asked
        self.leaving = leaving

    def __eq__(self, other):
        return (
            isinstance(other, Standing)
            and self.tick == other.tick
            and self.seed == other.seed
            and self.shared == other.shared
            and self.bodies == other.bodies
            and self.said == other.said
            and self.asked == other.asked
            and self.leaving == other.leaving
        )


def standing_of(world):
    """The standing at the beginning of the tick behind a world."""
    return Standing(world.tick + 1, world.seed, world.shared, world.bodies, (), (), ())
