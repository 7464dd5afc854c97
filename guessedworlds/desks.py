"""Desks: games, matches and reels, worked by lines."""

from guessedworlds.errors import NoLine, NoName
from guessedworlds.gametexts import game_mark, game_text, read_game
from guessedworlds.marks import mark
from guessedworlds.nets import Net, round_trip
from guessedworlds.pictures import body_lines, drawn
from guessedworlds.reels import Reel
from guessedworlds.replays import replay_of
from guessedworlds.scanning import is_plain_number
from guessedworlds.worldrows import world_row

MATCH = 0
RULES = (2, 8, 4, 60)
LETTERS = "abcdefghijklmnopqrstuvwxyz"
MOST_LETTERS = 8
MOST_FIGURES = 10
BREAK = "|"
NOTHING = "none"
# What stands behind the first word of each line: its one form, or its two.
FORMS = {
    "source": (("game",),), "mark": (("game",),), "match": (("new", "game", "integer"),), "round": (("match",),),
    "bag": (("match",),), "settled": (("match",), ("match", "number")), "tick": (("match", "number"),),
    "view": (("match",), ("match", "number")), "bodies": (("match",), ("match", "number")),
    "film": (("new", "match", "number"),), "seek": (("reel", "number"),), "at": (("reel",),), "look": (("reel",),),
    "said": (("reel",),), "print": (("reel",),),
}
# How many numbers stand behind each word of a deed.
DEED_NUMBERS = {
    "open": (1,), "close": (1,), "forget": (1,), "press": (2,), "advance": (1,), "leave": (1,), "post": (1,),
    "serve": (1,), "bring": (1,), "lose": (1,), "double": (1,), "fall": (2,), "rise": (1,), "back": (0,),
    "join": (1, 2),
}


def is_name(word):
    """Whether a word is a name."""
    return 1 <= len(word) <= MOST_LETTERS and all([letter in LETTERS for letter in word])


def is_number_word(word):
    """Whether a word tells a number."""
    return is_plain_number(word) and len(word) <= MOST_FIGURES


def is_integer_word(word):
    """Whether a word tells an integer."""
    if word.startswith("-"):
        return is_number_word(word[1:]) and word != "-0"
    return is_number_word(word)


def is_of_sort(sort, word):
    """Whether a word may stand where something of this sort does."""
    if sort == "number":
        return is_number_word(word)
    return is_integer_word(word) if sort == "integer" else is_name(word)


def has_form(form, words):
    """Whether words have a form."""
    return len(form) == len(words) and all([is_of_sort(sort, word) for sort, word in zip(form, words)])


def on_one_line(text):
    """A text with another sign in the place of line feeds."""
    return text.replace("\n", BREAK)


def outcome_text(outcome):
    """What is told of what a deed returned."""
    if outcome is None:
        return "ok"
    if outcome is True or outcome is False:
        return "yes" if outcome else "no"
    return str(outcome)


def world_of(net, place):
    """The host's world, or the shown one of the peer at a place."""
    return net.host().world() if place is None else net.peer(place).shown()


def tell_source(desk, game):
    """Tells the text of a game."""
    return on_one_line(game_text(game))


def tell_mark(desk, game):
    """Tells the mark of a game."""
    return str(game_mark(game))


def keep_match(desk, name, game, seed):
    """Keeps a net of a game under a name."""
    desk.matches[name] = Net(game, seed, MATCH, RULES)
    return "ok"


def lead_round(desk, net):
    """Leads a net by a round trip."""
    return outcome_text(round_trip(net))


def tell_bag(desk, net):
    """Tells how many letters there are in a bag."""
    return str(len(net.bag()))


def tell_settled(desk, net, place=None):
    """Tells the host's settled tick, or that of the peer at a place."""
    return str(net.host().settled() if place is None else net.peer(place).settled())


def tell_tick(desk, net, place):
    """Tells the shown tick of the peer at a place."""
    return str(net.peer(place).shown_tick())


def tell_view(desk, net, place=None):
    """Tells the picture of a world of a net."""
    return on_one_line(drawn(net.game, world_of(net, place)))


def tell_bodies(desk, net, place=None):
    """Tells the bodies of a world of a net."""
    return on_one_line(body_lines(net.game, world_of(net, place))) or NOTHING


def keep_reel(desk, name, net, every):
    """Keeps a reel of what is settled in a net under a name."""
    replay = replay_of(net.game, net.seed, every, net.host().book())
    desk.reels[name] = (net.game, Reel(replay))
    return str(len(replay.turns))


def seek_reel(desk, kept, tick):
    """Lets a reel go to a tick."""
    reel = kept[1]
    reel.seek(tick)
    return str(reel.worked())


def tell_place(desk, kept):
    """Tells the tick at which a reel stands."""
    return str(kept[1].stands())


def tell_look(desk, kept):
    """Tells the picture of a reel's world."""
    game, reel = kept
    return on_one_line(drawn(game, reel.world()))


def tell_said(desk, kept):
    """Tells what was said in a reel's world."""
    return " ".join([str(number) for number in kept[1].world().said]) or NOTHING


def tell_print(desk, kept):
    """Tells the mark of a reel's world."""
    game, reel = kept
    return str(mark(world_row(game, reel.world())))


ACTIONS = {
    "source": tell_source, "mark": tell_mark, "match": keep_match, "round": lead_round, "bag": tell_bag,
    "settled": tell_settled, "tick": tell_tick, "view": tell_view, "bodies": tell_bodies, "film": keep_reel,
    "seek": seek_reel, "at": tell_place, "look": tell_look, "said": tell_said, "print": tell_print,
}


def keep_game(desk, line):
    """Keeps the game that a line tells under a name."""
    words = line.split(" ", 2)
    if len(words) != 3 or not is_name(words[1]) or words[2] == "":
        raise NoLine()
    desk.games[words[1]] = read_game(words[2].replace(BREAK, "\n"))
    return "ok"


def do_deed(desk, words):
    """Does the deed of a match that the words behind the first one of a line tell."""
    if len(words) < 2 or not is_name(words[0]) or len(words) - 2 not in DEED_NUMBERS.get(words[1], ()):
        raise NoLine()
    if not all([is_number_word(word) for word in words[2:]]):
        raise NoLine()
    net = desk.thing("match", words[0])
    numbers = [int(word) for word in words[2:]]
    if words[1] == "join" and len(numbers) == 1:
        return outcome_text(net.deed(("join", numbers[0], None)))
    return outcome_text(net.deed((words[1], *numbers)))


class Desk:
    """Games, matches and reels by their names."""

    def __init__(self):
        self.games = {}
        self.matches = {}
        # Pairs of a game and a reel of it.
        self.reels = {}

    def thing(self, sort, word):
        """What a word of a line means."""
        if sort in ("number", "integer"):
            return int(word)
        if sort == "new":
            return word
        if sort == "game":
            kept = self.games
        else:
            kept = self.matches if sort == "match" else self.reels
        if word not in kept:
            raise NoName(word)
        return kept[word]

    def tell(self, line):
        """Does a line: what it tells."""
        if not isinstance(line, str) or "\n" in line:
            raise NoLine()
        words = line.split(" ")
        if words[0] == "game":
            return keep_game(self, line)
        if words[0] == "do":
            return do_deed(self, words[1:])
        for form in FORMS.get(words[0], ()):
            if has_form(form, words[1:]):
                things = [self.thing(sort, word) for sort, word in zip(form, words[1:])]
                action = ACTIONS[words[0]]
                return action(self, *things)
        raise NoLine()
