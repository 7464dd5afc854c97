"""Inputs: the buttons that each player presses in a tick."""

from guessedworlds.numbers import is_between

MOST_INPUT = 255


def is_input(thing):
    """Whether a thing is an input of one player."""
    return is_between(0, MOST_INPUT, thing)


def are_inputs(players, thing):
    """Whether a thing is a tuple of an input for each of so many players."""
    return isinstance(thing, tuple) and len(thing) == players and all([is_input(one) for one in thing])
