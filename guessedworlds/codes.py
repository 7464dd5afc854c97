"""Code: handlers as orders for a machine with a pile, and which of them are safe."""

from guessedworlds.errors import NoCode, NoHandler
from guessedworlds.numbers import is_between, is_small
from guessedworlds.programs import (
    MOST_KIND, ONE_PART_WORDS, TWO_PART_WORDS, is_handler, is_name_word, is_set_word, is_worded,
)

MOST_ORDERS = 3000
MOST_PILED = 60
BARE_WORDS = ("shove", "gone", "say", "spend")
# What each order takes from the pile and lays on it, but for the words of expressions.
PILE_WORDS = {
    "push": (0, 1), "load": (0, 1), "store": (1, 0), "make": (3, 0), "shove": (3, 0), "say": (1, 0),
    "gone": (0, 0), "spend": (0, 0), "unless": (1, 0), "jump": (0, 0),
}


def lay_expression(orders, expression):
    """Lays the orders of an expression behind those that are there."""
    word = expression[0]
    if word == "number":
        orders.append(("push", expression[1]))
    elif word == "name":
        orders.append(("load", expression[1]))
    else:
        for part in expression[1:]:
            lay_expression(orders, part)
        orders.append((word,))


def lay_plain(orders, statement):
    """Lays the orders of a statement that has no body, behind its spend."""
    word = statement[0]
    first = 2 if word in ("set", "make") else 1
    for expression in statement[first:]:
        lay_expression(orders, expression)
    if word == "set":
        orders.append(("store", statement[1]))
    elif word == "make":
        orders.append(("make", statement[1]))
    else:
        orders.append(("shove",) if word == "push" else (word,))


def lay_if(orders, statement):
    """Lays the orders of an if, behind its spend."""
    lay_expression(orders, statement[1])
    unless = len(orders)
    orders.append(None)
    lay_body(orders, statement[2])
    jump = len(orders)
    orders.append(None)
    orders[unless] = ("unless", len(orders))
    lay_body(orders, statement[3])
    orders[jump] = ("jump", len(orders))


def lay_while(orders, statement):
    """Lays the orders of a while, behind its spend."""
    spend = len(orders) - 1
    lay_expression(orders, statement[1])
    unless = len(orders)
    orders.append(None)
    lay_body(orders, statement[2])
    orders.append(("jump", spend))
    orders[unless] = ("unless", len(orders))


def lay_body(orders, body):
    """Lays the orders of a body, statement by statement."""
    for statement in body:
        orders.append(("spend",))
        if statement[0] == "if":
            lay_if(orders, statement)
        elif statement[0] == "while":
            lay_while(orders, statement)
        else:
            lay_plain(orders, statement)


def compiled(body):
    """The code of a handler's body."""
    if not is_handler(body):
        raise NoHandler()
    orders = []
    lay_body(orders, body)
    return tuple(orders)


def is_bare(thing):
    """Whether a thing is an order of a word alone."""
    if not is_worded(1, thing):
        return False
    return thing[0] in BARE_WORDS or thing[0] in ONE_PART_WORDS or thing[0] in TWO_PART_WORDS


def is_order(many, thing):
    """Whether a thing is an order of a code of so many."""
    if not is_worded(2, thing):
        return is_bare(thing)
    word, part = thing
    if word == "push":
        return is_small(part)
    if word == "load":
        return is_name_word(part)
    if word == "store":
        return is_set_word(part)
    if word == "make":
        return is_between(0, MOST_KIND, part)
    return word in ("unless", "jump") and is_between(0, many, part)


def are_orders(thing):
    """Whether a thing is a code, safe or not."""
    if not isinstance(thing, tuple) or len(thing) > MOST_ORDERS:
        return False
    return all([is_order(len(thing), order) for order in thing])


def taken_and_laid(order):
    """The pair of how many numbers an order takes from the pile, and how many it lays on it."""
    word = order[0]
    if word in ONE_PART_WORDS:
        return (1, 1)
    if word in TWO_PART_WORDS:
        return (2, 1)
    return PILE_WORDS[word]


def ways_from(code, place):
    """The places that a run may go on with behind the order at a place."""
    order = code[place]
    if order[0] == "jump":
        return (order[1],)
    if order[0] == "unless":
        return (place + 1, order[1])
    return (place + 1,)


def heights_found(code):
    """The heights ahead of all orders and at the end, None if they are not as a safe code's are."""
    found = [None] * (len(code) + 1)
    found[0] = 0
    waiting = [0] if len(code) > 0 else []
    while waiting:
        place = waiting.pop()
        taken, laid = taken_and_laid(code[place])
        height = found[place] - taken + laid
        if found[place] < taken or height > MOST_PILED:
            return None
        for behind in ways_from(code, place):
            if found[behind] is not None and found[behind] != height:
                return None
            if found[behind] is None and behind < len(code):
                waiting.append(behind)
            found[behind] = height
    return None if found[-1] not in (0, None) else tuple(found)


def has_free_ring(code, found):
    """Whether a ring of ways between orders that can be come to goes through no spend."""
    places = [place for place, order in enumerate(code) if found[place] is not None and order[0] != "spend"]
    leading = {place: 0 for place in places}
    for place in places:
        for behind in ways_from(code, place):
            if behind in leading:
                leading[behind] = leading[behind] + 1
    # Orders that none leads to are taken away, again and again: what stays is the rings, and what is behind them.
    waiting = [place for place in places if leading[place] == 0]
    taken_away = 0
    while waiting:
        place = waiting.pop()
        taken_away = taken_away + 1
        for behind in ways_from(code, place):
            if behind in leading:
                leading[behind] = leading[behind] - 1
                if leading[behind] == 0:
                    waiting.append(behind)
    return taken_away < len(places)


def safe_heights(thing):
    """The heights of a safe code, None for a thing that is none."""
    if not are_orders(thing):
        return None
    found = heights_found(thing)
    if found is None or has_free_ring(thing, found):
        return None
    return found


def is_code(thing):
    """Whether a thing is a safe code."""
    return safe_heights(thing) is not None


def heights(code):
    """The heights of the pile ahead of all orders and at the end, None where nothing leads."""
    found = safe_heights(code)
    if found is None:
        raise NoCode()
    return found
