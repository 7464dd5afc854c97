"""Machines: a safe code, run order by order."""

from guessedworlds.actors import Actor
from guessedworlds.buttons import are_inputs
from guessedworlds.codes import is_code
from guessedworlds.errors import NoBody, NoCode, NoInputs
from guessedworlds.programs import ONE_PART_WORDS, TWO_PART_WORDS
from guessedworlds.worlds import body_of


def do_word(actor, pile, word):
    """Does an order of a word of expressions."""
    last = pile.pop()
    if word in ONE_PART_WORDS:
        pile.append(actor.of_one(word, last))
    else:
        first = pile.pop()
        pile.append(actor.of_two(word, first, last))


def do_deed(actor, pile, order):
    """Does an order that changes the standing."""
    word = order[0]
    if word == "store":
        actor.put(order[1], pile.pop())
    elif word == "say":
        actor.say(pile.pop())
    elif word == "gone":
        actor.leave()
    else:
        last = pile.pop()
        middle = pile.pop()
        first = pile.pop()
        if word == "make":
            actor.ask(order[1], first, middle, last)
        else:
            actor.push(first, middle, last)


def do_order(actor, pile, order):
    """Does an order that the one at the next place comes behind."""
    word = order[0]
    if word == "push":
        pile.append(order[1])
    elif word == "load":
        pile.append(actor.named(order[1]))
    elif word in ONE_PART_WORDS or word in TWO_PART_WORDS:
        do_word(actor, pile, word)
    else:
        do_deed(actor, pile, order)


def run_code(actor, code):
    """Runs a safe code to its end, or until no fuel is left."""
    pile = []
    place = 0
    while place < len(code):
        order = code[place]
        place = place + 1
        if order[0] == "jump":
            place = order[1]
        elif order[0] == "unless":
            if pile.pop() == 0:
                place = order[1]
        elif order[0] != "spend":
            do_order(actor, pile, order)
        elif not actor.spend():
            return


def ran_code(game, standing, body_id, code, other, side, inputs):
    """The standing behind the run of a code for a body."""
    body = body_of(standing.bodies, body_id)
    if body is None:
        raise NoBody()
    if not is_code(code):
        raise NoCode()
    if not are_inputs(game.players, inputs):
        raise NoInputs()
    actor = Actor(game, standing, body, other, side, inputs)
    run_code(actor, code)
    return actor.standing_behind()
