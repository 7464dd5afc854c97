"""Programs: expressions, statements, bodies of them, and the handlers that they are for."""

from guessedworlds.errors import BadProgram
from guessedworlds.numbers import is_between, is_small

HANDLER_WORDS = ("tick", "touch", "wall")
CELL_WORDS = ("c0", "c1", "c2", "c3", "s0", "s1", "s2", "s3", "s4", "s5", "s6", "s7")
SPEED_WORDS = ("dx", "dy")
STATE_WORDS = ("x", "y", "tick", "id", "owner", "buttons", "other", "side")
ONE_PART_WORDS = ("not", "minus", "draw", "press", "kind", "left", "top")
TWO_PART_WORDS = ("add", "sub", "mul", "div", "rest", "less", "same", "and", "or", "cell")
MOST_KIND = 7
MOST_EXPRESSION_DEEP = 10
MOST_EXPRESSION_TUPLES = 40
MOST_BODIES_DEEP = 5
MOST_STATEMENTS = 50
MOST_HANDLER_TUPLES = 400


def is_set_word(thing):
    """Whether a thing is a word that a statement may set."""
    return isinstance(thing, str) and (thing in SPEED_WORDS or thing in CELL_WORDS)


def is_name_word(thing):
    """Whether a thing is a word that a name may have."""
    return is_set_word(thing) or (isinstance(thing, str) and thing in STATE_WORDS)


def is_worded(many, thing):
    """Whether a thing is a tuple of so many things, a string at first."""
    return isinstance(thing, tuple) and len(thing) == many and isinstance(thing[0], str)


def parts_of(thing):
    """The parts within an expression, not judged themselves, None for what has no expression's form."""
    if is_worded(2, thing):
        word, part = thing
        if word == "number":
            return () if is_small(part) else None
        if word == "name":
            return () if is_name_word(part) else None
        return (part,) if word in ONE_PART_WORDS else None
    if is_worded(3, thing) and thing[0] in TWO_PART_WORDS:
        return thing[1:]
    return None


def tuples_of(thing):
    """How many tuples an expression has, 0 for what is none."""
    many = 0
    waiting = [(thing, 1)]
    while waiting:
        one, deep = waiting.pop()
        parts = parts_of(one)
        many = many + 1
        if parts is None or deep > MOST_EXPRESSION_DEEP or many > MOST_EXPRESSION_TUPLES:
            return 0
        for part in parts:
            waiting.append((part, deep + 1))
    return many


def pieces_of(thing):
    """The pair of what should be a statement's expressions and its bodies, None for no statement's form."""
    if is_worded(1, thing) and thing[0] == "gone":
        return ((), ())
    if is_worded(2, thing) and thing[0] == "say":
        return (thing[1:], ())
    if is_worded(3, thing) and thing[0] == "set" and is_set_word(thing[1]):
        return (thing[2:], ())
    if is_worded(3, thing) and thing[0] == "while":
        return (thing[1:2], thing[2:])
    if is_worded(4, thing) and thing[0] == "push":
        return (thing[1:], ())
    if is_worded(4, thing) and thing[0] == "if":
        return (thing[1:2], thing[2:])
    if is_worded(5, thing) and thing[0] == "make" and is_between(0, MOST_KIND, thing[1]):
        return (thing[2:], ())
    return None


def is_handler(thing):
    """Whether a thing is a handler's body."""
    statements = 0
    tuples = 0
    waiting = [(thing, 1)]
    while waiting:
        body, deep = waiting.pop()
        if not isinstance(body, tuple) or deep > MOST_BODIES_DEEP:
            return False
        statements = statements + len(body)
        if statements > MOST_STATEMENTS:
            return False
        for statement in body:
            pieces = pieces_of(statement)
            if pieces is None:
                return False
            sizes = [tuples_of(expression) for expression in pieces[0]]
            tuples = tuples + sum(sizes)
            if 0 in sizes or tuples > MOST_HANDLER_TUPLES:
                return False
            for inner in pieces[1]:
                waiting.append((inner, deep + 1))
    return True


def has_handler_words(thing):
    """Whether a thing is a dict with words of handlers alone as keys."""
    return isinstance(thing, dict) and all([isinstance(key, str) and key in HANDLER_WORDS for key in thing])


class Program:
    """Handlers for bodies of a kind, that never change."""

    def __init__(self, handlers):
        if not has_handler_words(handlers):
            raise BadProgram("handlers")
        for word in HANDLER_WORDS:
            if word in handlers and not is_handler(handlers[word]):
                raise BadProgram(word)
        self.handlers = {word: handlers[word] for word in HANDLER_WORDS if word in handlers}

    def __eq__(self, other):
        return isinstance(other, Program) and self.handlers == other.handlers
