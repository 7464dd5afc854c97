"""[13.4]: branches."""

import random
import unittest

from guessedworlds.branches import Branches
from guessedworlds.errors import BadTurns, NoInputs, NoNode, NoNumber, NoReplay, NoSeed, OtherGame
from guessedworlds.games import Game, Kind
from guessedworlds.grounds import Ground
from guessedworlds.replays import Replay
from guessedworlds.ticks import run_of
from guessedworlds.worlds import first_world
from tests.growing import MEADOW
from tests.things import is_from, only_named, raised

SMALL = Game(1, Ground(("..",)), (Kind(1, 1, False, 0, None),), ())


def grown(many, chance):
    """A tree of so many nodes, with its edges as a dict, as they were told."""
    tree, edges = Branches(MEADOW, 7), {}
    while tree.many() < many:
        node, inputs = chance.randrange(tree.many()), (chance.randrange(3), 0)
        before = tree.many()
        found = tree.grow(node, inputs)
        if (node, inputs) in edges:
            assert (found, tree.many()) == (edges[node, inputs], before)
        else:
            assert (found, tree.many()) == (before, before + 1)
        edges[node, inputs] = found
    return tree, edges


class Trees(unittest.TestCase):
    def test_the_root(self):
        tree = Branches(MEADOW, 7)
        self.assertEqual((tree.many(), tree.worked(), tree.world(0)), (1, 0, first_world(MEADOW, 7)))
        self.assertEqual((tree.path(0), tree.above(0), tree.below(0), tree.meet(0, 0)), ((), None, (), 0))
        self.assertEqual(tree.replay(0, 5), Replay(MEADOW, 7, 5, ()))
        only_named(self, lambda thing: Branches(MEADOW, thing), (NoSeed, {}), is_from(1, 2 ** 31 - 2))

    def test_like_and_unlike_inputs(self):
        tree = Branches(MEADOW, 7)
        self.assertEqual([tree.grow(0, (1, 0)), tree.grow(0, (0, 1)), tree.grow(0, (1, 0)), tree.grow(1, (1, 0))],
                         [1, 2, 1, 3])
        self.assertEqual((tree.grow(2, (1, 0)), tree.grow(1, (1, 0)), tree.grow(0, (9, 9))), (4, 3, 5))
        self.assertEqual((tree.many(), tree.worked()), (6, 5))
        self.assertEqual([tree.below(node) for node in range(6)], [(1, 2, 5), (3,), (4,), (), (), ()])
        self.assertEqual([tree.above(node) for node in range(6)], [None, 0, 0, 1, 2, 0])
        self.assertEqual(tree.path(4), ((0, 1), (1, 0)))
        self.assertEqual(tree.replay(4, 3), Replay(MEADOW, 7, 3, ((0, 1), (1, 0))))

    def test_the_fact_of_branches(self):
        chance = random.Random(291)
        tree, edges = grown(60, chance)
        self.assertEqual((tree.many(), tree.worked()), (60, 59))
        above = {node: (parent, inputs) for (parent, inputs), node in edges.items()}
        paths = {}
        for node in range(60):
            parent, inputs = above.get(node, (None, None))
            path = () if parent is None else (*paths[parent], inputs)
            paths[node] = path
            self.assertEqual((tree.path(node), tree.above(node)), (path, parent))
            self.assertEqual(tree.world(node), run_of(MEADOW, first_world(MEADOW, 7), path))
            self.assertEqual(tree.below(node), tuple(sorted([child for child in above if above[child][0] == node])))
        self.assertEqual(len(set(paths.values())), 60)
        ways = {}
        for node in range(60):
            ways[node] = [other for other in range(60) if paths[node][:len(paths[other])] == paths[other]]
        for one in range(60):
            for other in range(60):
                both = [node for node in ways[one] if node in ways[other]]
                self.assertEqual(tree.meet(one, other), max(both, key=lambda node: len(paths[node])))

    def test_a_node_grown_late_above_an_elder_one(self):
        tree = Branches(SMALL, 7)
        nodes = [0]
        for _ in range(3000):
            nodes.append(tree.grow(nodes[-1], (1,)))
        late = tree.grow(5, (2,))
        self.assertEqual((tree.meet(late, 3000), tree.meet(3000, late), tree.meet(2, late), tree.meet(7, late)),
                         (5, 5, 2, 5))

    def test_graft(self):
        tree = Branches(MEADOW, 7)
        self.assertEqual(tree.graft(Replay(MEADOW, 7, 3, ())), 0)
        self.assertEqual(tree.graft(Replay(MEADOW, 7, 3, ((1, 1), (2, 2)))), 2)
        self.assertEqual(tree.graft(Replay(MEADOW, 7, 9, ((1, 1), (3, 3)))), 3)
        self.assertEqual(tree.graft(Replay(MEADOW, 7, 9, ((1, 1),))), 1)
        self.assertEqual((tree.many(), tree.worked(), tree.meet(2, 3)), (4, 3, 1))
        self.assertEqual(tree.graft(tree.replay(3, 1)), 3)

    def test_errors_in_order_with_nothing_changed(self):
        tree = Branches(MEADOW, 7)
        tree.grow(0, (1, 1))
        alike = Game(2, MEADOW.ground, MEADOW.kinds, MEADOW.births)
        for call, arguments, error in (
            (tree.grow, (2, None), NoNode), (tree.grow, (1, None), NoInputs), (tree.grow, (1, (1,)), NoInputs),
            (tree.world, (2,), NoNode),
            (tree.path, (-1,), NoNode), (tree.above, (True,), NoNode), (tree.below, (None,), NoNode),
            (tree.meet, (2, 0), NoNode),
            (tree.meet, (0, 2), NoNode), (tree.replay, (2, 0), NoNode), (tree.replay, (1, 0), NoNumber),
            (tree.replay, (1, 513), NoNumber),
            (tree.graft, (None,), NoReplay), (tree.graft, (tree,), NoReplay),
            (tree.graft, (Replay(MEADOW, 8, 1, ()),), OtherGame),
            (tree.graft, (Replay(Game(2, MEADOW.ground, MEADOW.kinds, ()), 7, 1, ((1, 1),)),), OtherGame),
            (tree.graft, (Replay(SMALL, 7, 1, ((1,),)),), OtherGame),
        ):
            self.assertEqual(raised(call, *arguments), (error, {}))
        self.assertEqual((tree.many(), tree.worked(), tree.below(1)), (2, 1, ()))
        self.assertEqual(tree.graft(Replay(alike, 7, 1, ((1, 1),))), 1)

    def test_replays_of_long_paths(self):
        tree = Branches(SMALL, 7)
        node = 0
        for _ in range(4096):
            node = tree.grow(node, (0,))
        self.assertEqual(len(tree.replay(node, 512).turns), 4096)
        self.assertEqual(tree.graft(tree.replay(node, 512)), node)
        node = tree.grow(node, (0,))
        self.assertEqual(raised(tree.replay, node, 512), (BadTurns, {"index": 4096}))
        self.assertEqual(raised(tree.replay, node, 513), (NoNumber, {}))
        self.assertEqual(len(tree.path(node)), 4097)

    def test_things_in_the_place_of_each_argument(self):
        tree = grown(5, random.Random(292))[0]
        node = is_from(0, 4)
        for call in (tree.world, tree.path, tree.above, tree.below, lambda thing: tree.meet(0, thing),
                     lambda thing: tree.meet(thing, 0),
                     lambda thing: tree.replay(thing, 1)):
            only_named(self, call, (NoNode, {}), node)
        only_named(self, lambda thing: tree.replay(1, thing), (NoNumber, {}), is_from(1, 512))
        only_named(self, lambda thing: tree.grow(1, thing), (NoInputs, {}), lambda thing: False)
        for thing in (None, 1, tree, (), "replay", [Replay(MEADOW, 7, 1, ())]):
            self.assertEqual(raised(tree.graft, thing), (NoReplay, {}))
        only_named(self, lambda thing: tree.grow(thing, (1, 1)), (NoNode, {}), is_from(0, 7))


if __name__ == "__main__":
    unittest.main()
