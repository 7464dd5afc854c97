"""Inputs: the buttons that each player presses in a tick."""

from guessedworlds.numbers import is_between

MOST_INPUT = 255
MOST_TICKS = 100000


def is_input(thing):
    """Whether a thing is an input of one player."""
    return is_between(0, MOST_INPUT, thing)


def are_inputs(players, thing):
    """Whether a thing is a tuple of an input for each of so many players."""
    return isinstance(thing, tuple) and len(thing) == players and all([is_input(one) for one in thing])


def is_tick(thing):
    """Whether a thing is a tick that inputs may be told from."""
    return is_between(0, MOST_TICKS, thing)


def are_told(thing):
    """Whether a thing is a tuple of inputs of one player, tick by tick."""
    return isinstance(thing, tuple) and len(thing) <= MOST_TICKS and all([is_input(one) for one in thing])
