"""All errors of the package, one class for each kind of failure."""


class WorldError(ValueError):
    """What all errors of the package have in common: without fields of its own, one is made with nothing."""

    def __init__(self):
        ValueError.__init__(self)


class NoNumber(WorldError):
    """What should be a number, or an integer within bounds, is none."""


class NoSeed(WorldError):
    """What should be a seed is none."""


class BadGround(WorldError):
    """The rows of a ground are wrong: -1 for all of them, else the number of the first wrong one."""

    def __init__(self, part):
        self.part = part


class BadProgram(WorldError):
    """The handlers of a program are wrong: which part."""

    def __init__(self, part):
        self.part = part


class BadKind(WorldError):
    """A kind of bodies is wrong: which part."""

    def __init__(self, part):
        self.part = part


class BadGame(WorldError):
    """A game is wrong: which part, or the number of the first wrong birth."""

    def __init__(self, part):
        self.part = part


class NoWorld(WorldError):
    """What should be a world of the game is none."""


class NoBody(WorldError):
    """No body has this id."""


class NoWay(WorldError):
    """What should be a way is none."""


class NoInputs(WorldError):
    """What should be inputs, or an input, is none."""


class NoHandler(WorldError):
    """What should be a handler's body is none."""


class NoCode(WorldError):
    """What should be a safe code is none."""


class NoRows(WorldError):
    """Rows of inputs are wrong: the first wrong one, -1 for all."""

    def __init__(self, index):
        self.index = index


class NoRow(WorldError):
    """What should be a row of bytes is none."""


class NoPlace(WorldError):
    """What should be a place of a row is none."""


class BadRow(WorldError):
    """A row does not say what it should: at which place."""

    def __init__(self, place):
        self.place = place


class BadChange(WorldError):
    """A change has a wrong part: at which place."""

    def __init__(self, place):
        self.place = place


class NoSeat(WorldError):
    """What should be a seat is none."""


class NotWaiting(WorldError):
    """The seat is not waiting."""


class NoTick(WorldError):
    """What should be a tick within bounds is none."""


class NotOpen(WorldError):
    """The seat is not open."""


class Gap(WorldError):
    """Inputs begin beyond the ending of what is told."""


class BadDeed(WorldError):
    """Deeds of a book are wrong: the first wrong one, -1 for all."""

    def __init__(self, index):
        self.index = index


class NoBook(WorldError):
    """What should be a book of the game's players is none."""


class NoPeer(WorldError):
    """No peer is known at this place."""


class NoRules(WorldError):
    """What should be rules is none."""


class NoPast(WorldError):
    """What should be a peer's past is none."""


class NoLetter(WorldError):
    """What should be the contents of a letter is none."""


class NoDeed(WorldError):
    """What should be a deed is none, or cannot be done."""


class BadDeeds(WorldError):
    """Deeds of a net are wrong: the first wrong one, -1 for all."""

    def __init__(self, index):
        self.index = index


class NoCut(WorldError):
    """What should tell how blocks are cut does not."""


class NoBlocks(WorldError):
    """What should be blocks is none."""


class NoDisk(WorldError):
    """What should be a disk is none."""


class OtherMatch(WorldError):
    """A disk is one of another match."""


class BadTurns(WorldError):
    """Turns of a replay are wrong: the first wrong one, -1 for all."""

    def __init__(self, index):
        self.index = index


class OtherGame(WorldError):
    """A replay is one of another game."""


class Strayed(WorldError):
    """A replay's mark is not that of its world: at which tick."""

    def __init__(self, tick):
        self.tick = tick


class NoNode(WorldError):
    """What should be a node is none."""


class NoReplay(WorldError):
    """What should be a replay is none."""


class NoExpression(WorldError):
    """What should be an expression is none."""


class BadText(WorldError):
    """A text does not say what it should: in which line."""

    def __init__(self, line):
        self.line = line


class NoProgram(WorldError):
    """What should be a program is none."""


class NoPicture(WorldError):
    """What should be a picture is none."""


class Unlike(WorldError):
    """Two pictures have not as many rows and signs."""


class NoChanges(WorldError):
    """What should be changes of a picture is none."""


class NoLine(WorldError):
    """What should be a line for the desk is none."""


class NoName(WorldError):
    """Nothing of its sort is kept under this name."""

    def __init__(self, name):
        self.name = name
