"""Replays: the inputs of a match, with marks of its worlds, as rows and back."""

from guessedworlds.books import Book
from guessedworlds.buttons import are_inputs
from guessedworlds.errors import BadRow, BadTurns, NoBook, NoNumber, NoRow, NoSeed, OtherGame, Strayed
from guessedworlds.gametexts import game_mark
from guessedworlds.inputrows import input_row, inputs_read
from guessedworlds.marks import FIRST_MARK, marked_on
from guessedworlds.numbers import MOST_SEED, is_between, is_seed
from guessedworlds.readers import Reader
from guessedworlds.rows import is_row, whole
from guessedworlds.ticks import next_world
from guessedworlds.worldrows import world_row
from guessedworlds.worlds import first_world

MOST_EVERY = 512
MOST_TURNS = 4096


def is_every(thing):
    """Whether a thing is a number of ticks from key mark to key mark."""
    return is_between(1, MOST_EVERY, thing)


def check_start(seed, every):
    """Raises what is to be raised for what is no seed, then for what is no every."""
    if not is_seed(seed):
        raise NoSeed()
    if not is_every(every):
        raise NoNumber()


class Replay:
    """The turns of a match, that never change."""

    def __init__(self, game, seed, every, turns):
        check_start(seed, every)
        if not isinstance(turns, tuple) or len(turns) > MOST_TURNS:
            raise BadTurns(-1)
        for index, inputs in enumerate(turns):
            if not are_inputs(game.players, inputs):
                raise BadTurns(index)
        self.game = game
        self.seed = seed
        self.every = every
        self.turns = turns

    def __eq__(self, other):
        return (
            isinstance(other, Replay)
            and self.game == other.game
            and self.seed == other.seed
            and self.every == other.every
            and self.turns == other.turns
        )


def replay_of(game, seed, every, book):
    """The replay of what is settled in a book."""
    check_start(seed, every)
    if not isinstance(book, Book) or book.players != game.players:
        raise NoBook()
    settled = book.settled()
    if settled > MOST_TURNS:
        raise BadTurns(MOST_TURNS)
    return Replay(game, seed, every, tuple([book.inputs(tick) for tick in range(settled)]))


def key_marks(replay):
    """The tuple of the marks of a replay's worlds at the multiples of every."""
    game = replay.game
    now = first_world(game, replay.seed)
    marks = [marked_on(FIRST_MARK, world_row(game, now))]
    for inputs in replay.turns:
        now = next_world(game, now, inputs)
        if now.tick % replay.every == 0:
            marks.append(marked_on(FIRST_MARK, world_row(game, now)))
    return tuple(marks)


def replay_row(replay):
    """The row of a replay."""
    row = []
    for number in (game_mark(replay.game), replay.seed, replay.every, len(replay.turns)):
        row.extend(whole(number))
    for player in range(replay.game.players):
        row.extend(input_row(tuple([inputs[player] for inputs in replay.turns])))
    for mark in key_marks(replay):
        row.extend(whole(mark))
    return tuple(row)


def number_read(reader, least, most):
    """The number from the least to the most that stands where a reader is."""
    place = reader.at
    number = reader.whole()
    if not least <= number <= most:
        raise BadRow(place)
    return number


def turns_read(reader, players, many):
    """The tuple of so many turns that stand where a reader is, player by player."""
    columns = []
    for _ in range(players):
        place = reader.at
        inputs = inputs_read(reader)
        if len(inputs) != many:
            raise BadRow(place)
        columns.append(inputs)
    return tuple([tuple([column[tick] for column in columns]) for tick in range(many)])


def check_marks(replay, marks):
    """Raises what is to be raised for the first mark that is not that of its world."""
    for index, (mark, right) in enumerate(zip(marks, key_marks(replay))):
        if mark != right:
            raise Strayed(index * replay.every)


def read_replay(game, row):
    """The replay of a game of which this is the row."""
    if not is_row(row):
        raise NoRow()
    reader = Reader(row, 0)
    told_game = reader.whole()
    seed = number_read(reader, 1, MOST_SEED)
    every = number_read(reader, 1, MOST_EVERY)
    many = number_read(reader, 0, MOST_TURNS)
    turns = turns_read(reader, game.players, many)
    marks = reader.wholes(many // every + 1)
    reader.close()
    if told_game != game_mark(game):
        raise OtherGame()
    replay = Replay(game, seed, every, turns)
    check_marks(replay, marks)
    return replay
