"""Rows of inputs: a player's inputs, tick by tick, as bytes, and back."""

from guessedworlds.buttons import MOST_TICKS, are_told
from guessedworlds.errors import BadRow, NoInputs
from guessedworlds.readers import Reader
from guessedworlds.rows import check_place, whole


def runs_of(inputs):
    """The list of the stretches of one input, as long as can be: lists [input, how many ticks]."""
    runs = []
    for one in inputs:
        if runs and runs[-1][0] == one:
            runs[-1][1] = runs[-1][1] + 1
        else:
            runs.append([one, 1])
    return runs


def input_row(inputs):
    """The row of inputs."""
    if not are_told(inputs):
        raise NoInputs()
    runs = runs_of(inputs)
    row = [*whole(len(runs))]
    for one, many in runs:
        row.append(one)
        row.extend(whole(many))
    return tuple(row)


def inputs_read(reader):
    """The inputs that stand where a reader is."""
    inputs = []
    last = None
    for _ in range(reader.whole()):
        place = reader.at
        one = reader.byte()
        many = reader.whole()
        if many == 0 or one == last or len(inputs) + many > MOST_TICKS:
            raise BadRow(place)
        inputs.extend([one] * many)
        last = one
    return tuple(inputs)


def read_inputs(row, at):
    """The pair of the inputs that stand at a place of a row, and the place behind them."""
    check_place(row, at)
    reader = Reader(row, at)
    inputs = inputs_read(reader)
    return (inputs, reader.at)
