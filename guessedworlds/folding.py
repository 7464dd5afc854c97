"""Folding: safe codes made shorter, that lead each standing to the same."""

from guessedworlds.actors import outcome_of_one, outcome_of_two
from guessedworlds.codes import heights_found, is_code
from guessedworlds.errors import NoCode

FOLDED_OF_ONE = ("not", "minus")
FOLDED_OF_TWO = ("add", "sub", "mul", "div", "rest", "less", "same", "and", "or")
LEADING_WORDS = ("jump", "unless")


def is_leading(order):
    """Whether an order may lead to another place than the next one."""
    return order[0] in LEADING_WORDS


def behind_jumps(orders, place):
    """The place that a run comes to from a place by jumps alone, if this one can be come to."""
    # No ring of jumps can be come to: it would go through no spend.
    at = place
    while at < len(orders) and orders[at][0] == "jump":
        at = orders[at][1]
    return at


def straightened(orders):
    """The orders, of which none that can be come to leads to a jump."""
    found = heights_found(orders)
    straight = []
    for place, order in enumerate(orders):
        if is_leading(order) and found[place] is not None:
            straight.append((order[0], behind_jumps(orders, order[1])))
        else:
            straight.append(order)
    return tuple(straight)


def led_anew(kept, end):
    """The orders of pairs (place, order), what led to one of these places leading to where it is now."""
    places = {place: number for number, (place, _) in enumerate(kept)}
    places[end] = len(kept)
    orders = []
    for _, order in kept:
        orders.append((order[0], places[order[1]]) if is_leading(order) else order)
    return tuple(orders)


def without_dead(orders):
    """The orders without those to which nothing leads."""
    found = heights_found(orders)
    kept = [(place, order) for place, order in enumerate(orders) if found[place] is not None]
    return led_anew(kept, len(orders))


def without_idle(orders):
    """The orders, of which none leads to a jump, without the jumps to the next one."""
    kept = [(place, order) for place, order in enumerate(orders) if order != ("jump", place + 1)]
    return led_anew(kept, len(orders))


def are_pushes(many, pairs):
    """Whether pairs (place, order) are so many, and all are pushes."""
    return len(pairs) == many and all([order[0] == "push" for _, order in pairs])


def fold_end(kept, led_to):
    """Makes one push of a word at the end of the kept orders and the pushes right ahead of it, if it may be."""
    place, order = kept[-1]
    word = order[0]
    if place in led_to:
        return
    if word in FOLDED_OF_ONE and are_pushes(1, kept[-2:-1]):
        first, one = kept[-2]
        kept[-2:] = [(first, ("push", outcome_of_one(word, one[1])))]
    elif word in FOLDED_OF_TWO and are_pushes(2, kept[-3:-1]) and kept[-2][0] not in led_to:
        first, one = kept[-3]
        number = outcome_of_two(None, word, one[1], kept[-2][1][1])
        kept[-3:] = [(first, ("push", number))]


def with_folded_words(orders):
    """The orders, words that stand right behind all their numbers being worked out."""
    led_to = {order[1]: True for order in orders if is_leading(order)}
    kept = []
    for place, order in enumerate(orders):
        kept.append((place, order))
        fold_end(kept, led_to)
    return led_anew(kept, len(orders))


def folded(code):
    """A code of no more orders than a safe code, that leads each standing to the same."""
    if not is_code(code):
        raise NoCode()
    ahead = None
    orders = code
    # What one round leaves out may bring together what another one folds.
    while orders != ahead:
        ahead = orders
        orders = with_folded_words(without_idle(without_dead(straightened(orders))))
    return orders
