"""[4.2]: codes that run, as their handlers do."""

import random
import unittest

from guessedworlds.codes import compiled, is_code
from guessedworlds.errors import NoBody, NoCode, NoInputs
from guessedworlds.machines import ran_code
from guessedworlds.numbers import drawn, next_seed, seed_after
from guessedworlds.runs import ran
from guessedworlds.standings import Standing
from tests.things import (
    BODIES, WITH_ONE, WITH_TWO, Told, arena, grown_handler, grown_standing, is_from, is_whole, only_named, raised,
    with_part,
)

PARTS = (50, 7, (21, 22, 23, 24, 25, 26, 27, 28), BODIES, (), (), ())
SPEND = ("spend",)
SAY = ("say",)
SHOVE = ("shove",)
GONE = ("gone",)
MOST = 2 ** 31 - 1


def push(*numbers):
    """Orders that pile these numbers up."""
    return tuple([("push", number) for number in numbers])


def run(*code, inputs=(0, 0), standing=Standing(*PARTS)):
    """The standing behind the run of a code for the first body."""
    return ran_code(arena(None), standing, 4, code, 7, 10, inputs)


def behind(**others):
    """The standing of the parts, others in the place of some."""
    words = ("tick", "seed", "shared", "bodies", "said", "asked", "leaving")
    return Standing(*{**dict(zip(words, PARTS)), **others}.values())


def alike(order):
    """Orders that take and lay as many numbers as one does, this one among them."""
    if order[0] in ("jump", "unless"):
        return [order]
    groups = [
        [(word,) for word in WITH_ONE], [(word,) for word in WITH_TWO], [("push", 0), ("push", 9), ("load", "c1")],
        [SAY, ("store", "c0"), ("store", "dx"), ("store", "s1")], [SHOVE, ("make", 1), ("make", 6)], [SPEND, GONE],
    ]
    words = [[one[0] for one in group] for group in groups]
    return [order, *[one for group, heads in zip(groups, words) if order[0] in heads for one in group]]


class Codes(unittest.TestCase):
    def test_no_orders(self):
        self.assertEqual(run(), behind())

    def test_pushes_and_loads(self):
        self.assertEqual(run(*push(3, -4), SAY, SAY).said, (-4, 3))
        words = ["x", "y", "dx", "dy", "tick", "id", "owner", "buttons", "other", "side", "c3", "s7"]
        code = [order for word in words for order in (("load", word), SAY)]
        self.assertEqual(run(*code, inputs=(9, 200)).said, (30, 0, 3, -2, 50, 4, 1, 200, 7, 10, -14, 28))

    def test_stores(self):
        actor = (*BODIES[0][:4], 16, -16, 1, (5, -12, 13, 6))
        code = [*push(5), ("store", "c0"), *push(6), ("store", "c3"), *push(99), ("store", "dx"), *push(-99)]
        standing = run(*code, ("store", "dy"), *push(MOST), ("store", "s2"), ("load", "dx"), SAY)
        shared = (21, 22, MOST, 24, 25, 26, 27, 28)
        self.assertEqual(standing, behind(bodies=(actor, *BODIES[1:]), shared=shared, said=(16,)))

    def test_the_last_one_worked_out_is_uppermost(self):
        for word, expected in [("sub", 7), ("div", 3), ("rest", 1), ("less", 0)]:
            self.assertEqual(run(*push(10, 3), (word,), SAY).said, (expected,))
        self.assertEqual(run(*push(16, 8), ("cell",), SAY, *push(8, 16), ("cell",), SAY).said, (3, 0))
        self.assertEqual(run(*push(1, 2, 3), ("make", 2)).asked, ((2, 1, 2, 1, 3),))
        self.assertEqual(run(*push(7, 2, 3), SHOVE).bodies[1][4:6], (1, 4))
        self.assertEqual(run(*push(0, 7, 2, 3), SHOVE, SAY), behind(
            said=(0,), bodies=(BODIES[0], (*BODIES[1][:4], 1, 4, *BODIES[1][6:]), BODIES[2]),
        ))

    def test_draws_and_presses(self):
        draw, seed = drawn(7, 100)
        self.assertEqual(run(*push(100), ("draw",), SAY), behind(said=(draw,), seed=seed))
        self.assertEqual(run(*push(3), ("press",), SAY, inputs=(0, 8)).said, (1,))
        self.assertEqual(run(*push(3), ("press",), SAY, inputs=(8, 0)).said, (0,))

    def test_gone_and_unless_and_jump(self):
        self.assertEqual(run(GONE), behind(leaving=(4,)))
        for number, expected in [(0, (2,)), (1, (1,)), (-1, (1,)), (MOST, (1,))]:
            code = (*push(number), ("unless", 5), *push(1), SAY, ("jump", 7), *push(2), SAY)
            self.assertEqual(run(*code).said, expected)

    def test_an_end_by_a_jump(self):
        self.assertEqual(run(*push(1), SAY, ("jump", 5), *push(2), SAY).said, (1,))
        self.assertEqual(run(*push(0), ("unless", 4), *push(2), SAY).said, ())

    def test_a_full_pile(self):
        standing = run(*push(*range(60)), *[SAY] * 60)
        self.assertEqual(standing.said, tuple(range(59, -1, -1)))

    def test_limits_of_said_and_asked(self):
        code = (SPEND, *push(1), SAY, *push(1, 2, 3), ("make", 1), *push(1, 2, 3), ("make", 3), ("jump", 0))
        standing = run(*code)
        self.assertEqual((standing.said, standing.asked), ((1,) * 64, ((1, 1, 2, 1, 3),) * 32))

    def test_a_spend_takes_one_and_ends_the_run(self):
        count = (("load", "s0"), *push(1), ("add",), ("store", "s0"))
        self.assertEqual(run(SPEND, *count, ("jump", 0)).shared[0], 21 + 100)
        self.assertEqual(run(SPEND, SPEND, *count, ("jump", 0)).shared[0], 21 + 50)
        self.assertEqual(run(SPEND, SPEND, SPEND, *count, ("jump", 0)).shared[0], 21 + 33)
        self.assertEqual(run(*[SPEND] * 100, *count).shared[0], 22)
        self.assertEqual(run(*[SPEND] * 101, *count).shared[0], 21)
        self.assertEqual(run(*[SPEND] * 100, *count, SPEND, *count).shared[0], 22)
        self.assertEqual(run(*count * 20).shared[0], 41)

    def test_a_run_that_ends_with_a_pile(self):
        self.assertEqual(run(*push(5, 6), SPEND, *push(1), SAY, ("jump", 2)).said, (1,) * 64)

    def test_draws_without_a_spend(self):
        code = (*push(5), ("draw",), ("store", "c0"))
        self.assertEqual(run(*code * 300).seed, seed_after(7, 300))
        self.assertEqual(run(SPEND, *code, ("jump", 0)).seed, seed_after(7, 100))

    def test_as_many_orders_as_may_be(self):
        code = (SPEND, *((*push(5), ("draw",), ("store", "c0")) * 1000)[:2997], ("jump", 0))
        self.assertEqual(len(code), 2999)
        self.assertEqual(run(*code).seed, seed_after(7, 99900))

    def test_where_nothing_leads(self):
        self.assertEqual(run(("jump", 2), ("add",), *push(1), SAY).said, (1,))

    def test_as_the_document_tells_it(self):
        chance = random.Random(41)
        others = 0
        for _ in range(1500):
            code = list(compiled(grown_handler(chance)))
            for _ in range(chance.randrange(1, 6)):
                place = chance.randrange(len(code))
                code[place] = chance.choice(alike(code[place]))
            standing = grown_standing(chance)
            inputs = (chance.randrange(256), chance.randrange(256))
            if is_code(tuple(code)):
                others += 1
                expected = Told(arena(None), standing, 4, 7, 10, inputs).behind_code(code)
                self.assertEqual(run(*code, inputs=inputs, standing=standing), expected)
        self.assertGreater(others, 1000)


class Facts(unittest.TestCase):
    def test_what_is_compiled_runs_as_its_handler(self):
        chance = random.Random(42)
        changed = 0
        for _ in range(2000):
            body = grown_handler(chance)
            standing = grown_standing(chance)
            inputs = (chance.randrange(256), chance.randrange(256))
            handled = ran(arena({"touch": body}), standing, 4, "touch", 9, 3, inputs)
            coded = ran_code(arena({"touch": body}), standing, 4, compiled(body), 9, 3, inputs)
            self.assertEqual(handled, coded)
            changed += handled != standing
        self.assertGreater(changed, 500)

    def test_for_each_body(self):
        body = (("say", ("name", "id")), ("gone",), ("push", ("name", "id"), ("number", 1), ("number", 1)))
        for number, one in enumerate(BODIES):
            standing = ran_code(arena(None), Standing(*PARTS), one[0], compiled(body), -1, 0, (0, 0))
            bodies = with_part(BODIES, number, (*one[:4], min(16, one[4] + 1), one[5] + 1, *one[6:]))
            self.assertEqual(standing, behind(said=(one[0],), leaving=(one[0],), bodies=bodies))


class Wrong(unittest.TestCase):
    def test_nothing_passed_is_changed(self):
        standing = Standing(*PARTS)
        code = (*push(5), ("draw",), ("store", "s0"), GONE, *push(7, 9, 9), SHOVE, *push(1), ("store", "c0"))
        first = run(*code, standing=standing)
        self.assertEqual(standing, Standing(*PARTS))
        self.assertEqual(run(*code, standing=standing), first)
        self.assertEqual(first.seed, next_seed(7))

    def test_the_order_of_errors(self):
        standing = Standing(*PARTS)
        game = arena(None)
        self.assertEqual(raised(ran_code, game, standing, 5, None, -1, 0, None), (NoBody, {}))
        self.assertEqual(raised(ran_code, game, standing, 4, None, -1, 0, None), (NoCode, {}))
        self.assertEqual(raised(ran_code, game, standing, 4, (), -1, 0, None), (NoInputs, {}))
        self.assertEqual(raised(ran_code, game, standing, 4, (("add",),), -1, 0, (0, 0)), (NoCode, {}))
        self.assertIsNone(raised(ran_code, game, standing, 4, (), -1, 0, (0, 0)))

    def test_wrong_inputs(self):
        for inputs in [(), (0,), (0, 0, 0), [0, 0], (0, 256), (-1, 0), (True, 0), (0, None), None, "00"]:
            called = raised(ran_code, arena(None), Standing(*PARTS), 4, (), -1, 0, inputs)
            self.assertEqual(called, (NoInputs, {}))

    def test_things_in_the_place_of_each_argument(self):
        standing = Standing(*PARTS)
        game = arena(None)
        fits = lambda thing: is_whole(thing) and thing in (4, 7, 9)
        only_named(self, lambda thing: ran_code(game, standing, thing, (), -1, 0, (0, 0)), (NoBody, {}), fits)
        fits = lambda thing: isinstance(thing, tuple) and thing in ((), (GONE,))
        only_named(self, lambda thing: ran_code(game, standing, 4, thing, -1, 0, (0, 0)), (NoCode, {}), fits)
        no_inputs = (NoInputs, {})
        only_named(self, lambda thing: ran_code(game, standing, 4, (), -1, 0, thing), no_inputs, lambda thing: False)
        fits = is_from(0, 255)
        only_named(self, lambda thing: ran_code(game, standing, 4, (), -1, 0, (0, thing)), no_inputs, fits)


if __name__ == "__main__":
    unittest.main()
