"""Branches: a tree of the worlds that can come."""

from guessedworlds.buttons import are_inputs
from guessedworlds.errors import BadTurns, NoInputs, NoNode, NoNumber, NoReplay, OtherGame
from guessedworlds.numbers import is_between
from guessedworlds.replays import MOST_TURNS, Replay, is_every
from guessedworlds.ticks import next_world
from guessedworlds.worlds import first_world

ROOT = 0


class Node:
    """A world that can come, and how it comes."""

    def __init__(self, world, parent, inputs):
        self.arrived = world
        # The number of the node that it was grown from, and by which inputs: None of the root.
        self.parent = parent
        self.grown_by = inputs
        # The numbers of the nodes grown from it, by the inputs, as they were grown.
        self.children = {}


class Branches:
    """A tree of nodes, numbered as they are grown."""

    def __init__(self, game, seed):
        self._game = game
        self._seed = seed
        self._nodes = [Node(first_world(game, seed), None, None)]
        self._worked = 0

    def _node(self, node):
        """The node of this number."""
        if not is_between(0, len(self._nodes) - 1, node):
            raise NoNode()
        return self._nodes[node]

    def grow(self, node, inputs):
        """The number of the node behind a tick with these inputs."""
        found = self._node(node)
        if not are_inputs(self._game.players, inputs):
            raise NoInputs()
        if inputs not in found.children:
            world = next_world(self._game, found.arrived, inputs)
            self._worked = self._worked + 1
            found.children[inputs] = len(self._nodes)
            self._nodes.append(Node(world, node, inputs))
        return found.children[inputs]

    def world(self, node):
        """The world of a node."""
        return self._node(node).arrived

    def path(self, node):
        """The tuple of the inputs that lead from the root to a node."""
        found = self._node(node)
        turns = []
        while found.parent is not None:
            turns.append(found.grown_by)
            found = self._nodes[found.parent]
        return tuple(turns[::-1])

    def above(self, node):
        """The node that a node was grown from, None for the root."""
        return self._node(node).parent

    def below(self, node):
        """The ascending tuple of the nodes grown from a node."""
        return tuple(sorted(list(self._node(node).children.values())))

    def meet(self, one, other):
        """The last node that stands on the ways from the root to both."""
        self._node(one)
        self._node(other)
        # A node is grown behind the one that it is grown from, so the greater one is never on the other's way.
        while one != other:
            if one > other:
                one = self._nodes[one].parent
            else:
                other = self._nodes[other].parent
        return one

    def replay(self, node, every):
        """The replay of the path to a node."""
        turns = self.path(node)
        if not is_every(every):
            raise NoNumber()
        if len(turns) > MOST_TURNS:
            raise BadTurns(MOST_TURNS)
        return Replay(self._game, self._seed, every, turns)

    def many(self):
        """How many nodes there are."""
        return len(self._nodes)

    def worked(self):
        """How often next_world was called."""
        return self._worked

    def graft(self, replay):
        """Grows the turns of a replay from the root on: the last node."""
        if not isinstance(replay, Replay):
            raise NoReplay()
        if replay.game != self._game or replay.seed != self._seed:
            raise OtherGame()
        node = ROOT
        for inputs in replay.turns:
            node = self.grow(node, inputs)
        return node
