"""Runs: a handler of a program, run as it is written."""

from guessedworlds.actors import Actor
from guessedworlds.buttons import are_inputs
from guessedworlds.errors import NoBody, NoInputs
from guessedworlds.worlds import body_of


def worth(actor, expression):
    """What an expression comes to, its parts worked out from the left."""
    word = expression[0]
    if word == "number":
        return expression[1]
    if word == "name":
        return actor.named(expression[1])
    one = worth(actor, expression[1])
    if len(expression) == 2:
        return actor.of_one(word, one)
    return actor.of_two(word, one, worth(actor, expression[2]))


def do_plain(actor, statement):
    """Does a statement that has no body."""
    word = statement[0]
    if word == "set":
        actor.put(statement[1], worth(actor, statement[2]))
    elif word == "make":
        x, y, cell = [worth(actor, part) for part in statement[2:]]
        actor.ask(statement[1], x, y, cell)
    elif word == "push":
        body_id, dx, dy = [worth(actor, part) for part in statement[1:]]
        actor.push(body_id, dx, dy)
    elif word == "gone":
        actor.leave()
    else:
        actor.say(worth(actor, statement[1]))


def run_while(actor, test, body):
    """Runs a while: a flag whether the run goes on behind it."""
    while actor.spend():
        if worth(actor, test) == 0:
            return True
        if not run_body(actor, body):
            return False
    return False


def run_statement(actor, statement):
    """Runs a statement: a flag whether the run goes on behind it."""
    word = statement[0]
    if word == "while":
        return run_while(actor, statement[1], statement[2])
    if not actor.spend():
        return False
    if word == "if":
        return run_body(actor, statement[2] if worth(actor, statement[1]) != 0 else statement[3])
    do_plain(actor, statement)
    return True


def run_body(actor, body):
    """Runs the statements of a body: a flag whether the run goes on behind them."""
    for statement in body:
        if not run_statement(actor, statement):
            return False
    return True


def handler_of(kind, word):
    """The handler that a kind has for a word: one that does nothing if it has none."""
    if kind.program is None:
        return ()
    return kind.program.handlers.get(word, ())


def ran(game, standing, body_id, word, other, side, inputs):
    """The standing behind the run of a body's handler."""
    body = body_of(standing.bodies, body_id)
    if body is None:
        raise NoBody()
    if not are_inputs(game.players, inputs):
        raise NoInputs()
    actor = Actor(game, standing, body, other, side, inputs)
    run_body(actor, handler_of(game.kinds[body[1]], word))
    return actor.standing_behind()
