"""Changes: what is to be done to a row, so that it becomes another one."""

from guessedworlds.errors import BadChange, BadRow, NoRow
from guessedworlds.rows import is_row, whole, whole_at

KEPT = 0
LEFT_OUT = 1
PUT_IN = 2
SORTS = 3


def check_rows(one, other):
    """Raises what is to be raised for what is no row."""
    if not is_row(one) or not is_row(other):
        raise NoRow()


def part_at(change, at):
    """The triple of how many bytes the part at a place is of, its sort, and the place behind its number."""
    try:
        number, behind = whole_at(change, at)
    except BadRow:
        raise BadChange(at)
    many, sort = divmod(number, SORTS)
    if many == 0:
        raise BadChange(at)
    return (many, sort, behind)


def changed_by(one, change):
    """What a right row becomes by a right one that should be a change."""
    found = []
    place = 0
    at = 0
    while at < len(change):
        many, sort, behind = part_at(change, at)
        source, begin = (change, behind) if sort == PUT_IN else (one, place)
        if many > len(source) - begin:
            raise BadChange(at)
        if sort != LEFT_OUT:
            found.extend(source[begin:begin + many])
        if sort == PUT_IN:
            at = behind + many
        else:
            place = place + many
            at = behind
    return tuple(found)


def changed(one, change):
    """What a row becomes by a change."""
    check_rows(one, change)
    return changed_by(one, change)


def many_alike(one, other):
    """How many things two tuples have in common at their beginnings."""
    for at, (thing, other_thing) in enumerate(zip(one, other)):
        if thing != other_thing:
            return at
    return min(len(one), len(other))


def part_row(many, sort):
    """The number of a part, no row for one of no bytes."""
    return () if many == 0 else whole(SORTS * many + sort)


def change(one, other):
    """A change by which the one row becomes the other."""
    check_rows(one, other)
    head = many_alike(one, other)
    tail = many_alike(one[head:][::-1], other[head:][::-1])
    put_in = other[head:len(other) - tail]
    left_out = part_row(len(one) - head - tail, LEFT_OUT)
    return part_row(head, KEPT) + part_row(len(put_in), PUT_IN) + put_in + left_out + part_row(tail, KEPT)


def is_change(one, other, thing):
    """Whether a thing is a change by which the one row becomes the other."""
    check_rows(one, other)
    if not is_row(thing):
        return False
    try:
        return changed_by(one, thing) == other
    except BadChange:
        return False
