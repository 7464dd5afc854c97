"""[4.2]: codes made shorter, that lead each standing to the same."""

import random
import unittest

from guessedworlds.codes import compiled, heights, is_code
from guessedworlds.errors import NoCode
from guessedworlds.folding import folded
from guessedworlds.games import Game
from guessedworlds.grounds import Ground
from guessedworlds.machines import ran_code
from guessedworlds.runs import ran
from tests.things import (
    EDGES, NAMES, SETS, Told, all_things, arena, grown_handler, grown_standing, only_named, raised,
)

SPEND = ("spend",)
SAY = ("say",)
NOT = ("not",)
MINUS = ("minus",)
ADD = ("add",)
WORDS_OF_TWO = ("add", "sub", "mul", "div", "rest", "less", "same", "and", "or")
LEAST, MOST = -2 ** 31, 2 ** 31 - 1


def push(*numbers):
    """Orders that pile these numbers up."""
    return tuple([("push", number) for number in numbers])


def jump(place):
    return ("jump", place)


def unless(place):
    return ("unless", place)


def load(word):
    return ("load", word)


def faults(code, made):
    """What is wrong with a code made of another one, but for what it does."""
    found = []
    if not is_code(made) or len(made) > len(code):
        return ["no code, or a longer one"]
    if None in heights(made)[:-1]:
        found.append("an order to which nothing leads")
    targets = [order[1] for order in made if order[0] in ("jump", "unless")]
    if "jump" in [made[place][0] for place in targets if place < len(made)]:
        found.append("a way to a jump")
    for place, order in enumerate(made):
        ahead = [one[0] for one in made[max(0, place - 2):place]]
        if order[0] in ("not", "minus") and ahead[-1:] == ["push"] and place not in targets:
            found.append("a push ahead of a word of one")
        if order[0] in WORDS_OF_TWO and ahead == ["push", "push"]:
            if place not in targets and place - 1 not in targets:
                found.append("two pushes ahead of a word of two")
    return found


def assembled(items):
    """The code of orders and labels ("at", label), jumps and unlesses leading to labels."""
    places = {}
    orders = []
    for item in items:
        if item[0] == "at":
            places[item[1]] = len(orders)
        else:
            orders.append(item)
    return tuple([(one[0], places[one[1]]) if one[0] in ("jump", "unless") else one for one in orders])


class Grower:
    """Grows safe codes full of what may be folded."""

    def __init__(self, chance):
        self.chance = chance
        self.labels = 0

    def label(self):
        self.labels += 1
        return self.labels

    def dead(self):
        """Orders to which nothing leads."""
        return self.chance.choice([
            [], [], [SAY], [ADD, NOT], [("push", 3)], [jump(self.labels)], [unless(self.labels), ("gone",)],
            [SPEND, jump(self.labels)],
        ])

    def detour(self):
        """Jumps to what comes next, over others, there and back."""
        here, there, behind = self.label(), self.label(), self.label()
        return self.chance.choice([
            [jump(behind), *self.dead(), ("at", behind)],
            [jump(here), *self.dead(), ("at", there), jump(behind), *self.dead(), ("at", here), jump(there),
             *self.dead(), ("at", behind)],
            [load("c0"), unless(here), ("at", here)],
        ])

    def number(self, deep=4):
        """Orders that lay one number."""
        chance = self.chance
        way = chance.randrange(9 if deep > 0 else 4)
        part = lambda: self.number(deep - 1)
        if way < 3:
            return [("push", chance.choice(EDGES))]
        if way == 3:
            return [load(chance.choice(NAMES))]
        if way == 4:
            return [*part(), (chance.choice(["not", "minus", "draw", "press", "left"]),)]
        if way == 5:
            one, other = self.label(), self.label()
            return [*part(), unless(one), *part(), jump(other), ("at", one), *part(),
                    ("at", other), *chance.choice([[], [NOT], [("push", 2), ("mul",)]])]
        orders = [*part(), *part()]
        orders = orders if chance.randrange(4) else [*part(), *self.detour(), *part()]
        return [*orders, *(self.detour() if chance.randrange(6) == 0 else []),
                (chance.choice([*WORDS_OF_TWO, "cell"]),)]

    def deed(self, deep=3):
        """Orders that lay nothing and take nothing."""
        chance = self.chance
        way = chance.randrange(8 if deep > 0 else 5)
        inner = lambda: self.deeds(2, deep - 1)
        if way < 2:
            return [*self.number(), SAY]
        if way == 2:
            return [*self.number(), ("store", chance.choice(SETS))]
        if way == 3:
            return [SPEND, *self.number(), *self.number(), *self.number(), chance.choice([("shove",), ("make", 1)])]
        if way == 4:
            return self.detour()
        one, other = self.label(), self.label()
        if way == 5:
            return [SPEND, *self.number(), unless(one), *inner(), jump(other), ("at", one), *inner(),
                    ("at", other)]
        return [("at", one), SPEND, *self.number(), unless(other), *inner(), jump(one), ("at", other)]

    def deeds(self, most, deep=3):
        return [order for _ in range(self.chance.randrange(most + 1)) for order in self.deed(deep)]

    def code(self):
        """A safe code."""
        while True:
            code = assembled([*self.deeds(4), ("at", 0)])
            if len(code) <= 400 and is_code(code):
                return code


class Checked(unittest.TestCase):
    def fold(self, code):
        """What a code is folded to, checked but for what it does."""
        made = folded(code)
        self.assertEqual(faults(code, made), [], (code, made))
        self.assertEqual(faults(made, folded(made)), [])
        self.assertEqual(folded(code), made)
        return made

    def assert_same(self, code, standing, game):
        """Checks that a code, and what it is folded to, lead to the same."""
        made = self.fold(code)
        inputs = (9, 200)
        expected = Told(game, standing, 4, 7, 10, inputs).behind_code(code)
        self.assertEqual(ran_code(game, standing, 4, code, 7, 10, inputs), expected)
        self.assertEqual(ran_code(game, standing, 4, made, 7, 10, inputs), expected, (code, made))
        return expected

    def says(self, *code):
        """What is said by a code folded."""
        return self.assert_same(code, grown_standing(random.Random(1)), arena(None)).said[-1]


class Words(Checked):
    def test_no_orders(self):
        self.assertEqual(folded(()), ())

    def test_words_of_one(self):
        for number, expected in [(0, 1), (1, 0), (-1, 0), (LEAST, 0)]:
            self.assertEqual(self.fold((*push(number), NOT, SAY)), (*push(expected), SAY))
        for number, expected in [(0, 0), (5, -5), (-5, 5), (MOST, -MOST), (LEAST, LEAST)]:
            self.assertEqual(self.fold((*push(number), MINUS, SAY)), (*push(expected), SAY))
        self.assertEqual(self.fold((*push(7), *[NOT, MINUS] * 50, SAY)), (*push(-1), SAY))

    def test_words_of_two(self):
        cases = [
            ("add", MOST, 1, LEAST), ("sub", LEAST, 1, MOST), ("mul", 65536, 65536, 0), ("mul", LEAST, -1, LEAST),
            ("div", 7, 2, 3), ("div", -7, 2, -4), ("div", 7, 0, 0), ("div", LEAST, -1, LEAST), ("rest", 7, 0, 0),
            ("rest", -7, 3, 2), ("rest", 7, -3, -2), ("less", 1, 2, 1), ("less", 2, 2, 0), ("same", 3, 3, 1),
            ("same", 3, 4, 0), ("and", 2, 3, 1), ("and", 0, 3, 0), ("or", 0, -1, 1), ("or", 0, 0, 0),
        ]
        for word, one, other, expected in cases:
            self.assertEqual(self.fold((*push(one, other), (word,), SAY)), (*push(expected), SAY), word)

    def test_words_that_look_at_the_world_stay(self):
        for word in ("draw", "press", "kind", "left", "top"):
            self.assertEqual(self.fold((*push(3), (word,), SAY)), (*push(3), (word,), SAY))
        self.assertEqual(self.fold((*push(3, 4), ("cell",), SAY)), (*push(3, 4), ("cell",), SAY))

    def test_what_stands_between_keeps_apart(self):
        for code in [
            (*push(3), SPEND, NOT, SAY), (*push(3), ("gone",), NOT, SAY), (*push(3), load("x"), SAY, NOT, SAY),
            (*push(3), SPEND, *push(3), ADD, SAY), (*push(3, 4), ("gone",), ADD, SAY),
        ]:
            self.assertEqual(self.fold(code), code)

    def test_what_is_folded_is_folded_once_more(self):
        self.assertEqual(self.fold((*push(1, 2), ADD, *push(3), ADD, SAY)), (*push(6), SAY))
        self.assertEqual(self.fold((*push(1, 2, 3), ADD, ADD, NOT, NOT, SAY)), (*push(1), SAY))
        code = (load("x"), *push(2, 3), ("mul",), ADD, SAY)
        self.assertEqual(self.fold(code), (load("x"), *push(6), ADD, SAY))
        deep = (*push(*range(60)), *[ADD] * 59, SAY)
        self.assertEqual(self.fold(deep), (*push(sum(range(60))), SAY))

    def test_one_number_alone_is_not_enough(self):
        for code in [(load("x"), *push(3), ADD, SAY), (*push(3), load("x"), ADD, SAY)]:
            self.assertEqual(self.fold(code), code)

    def test_each_expression_of_numbers(self):
        chance = random.Random(51)
        for _ in range(300):
            numbers = [chance.choice(EDGES) for _ in range(chance.randrange(1, 8))]
            code = list(push(*numbers))
            for left in range(len(numbers), 1, -1):
                code += [(chance.choice(["not", "minus"]),)] * chance.randrange(3)
                code.append((chance.choice(WORDS_OF_TWO),))
            self.assertEqual(self.fold((*code, SAY)), (*push(self.says(*code, SAY)), SAY))


class Ways(Checked):
    def test_come_to_from_elsewhere(self):
        # The second push, or the word, is come to over another push, too.
        word = (load("c0"), unless(4), *push(1), jump(5), *push(2), NOT, SAY)
        self.assertEqual(self.fold(word), word)
        second = (load("c0"), unless(4), *push(1), jump(5), *push(7), *push(2), ADD, SAY)
        self.assertEqual(self.fold(second), second)
        third = (load("c0"), unless(5), *push(1, 2), jump(7), *push(7, 8), ADD, SAY)
        self.assertEqual(self.fold(third), third)

    def test_the_first_push_may_be_come_to_from_elsewhere(self):
        code = (load("c0"), unless(3), ("gone",), *push(2), NOT, SAY)
        self.assertEqual(self.fold(code), (load("c0"), unless(3), ("gone",), *push(0), SAY))
        code = (load("c0"), unless(3), ("gone",), *push(2, 3), ADD, SAY)
        self.assertEqual(self.fold(code), (load("c0"), unless(3), ("gone",), *push(5), SAY))
        ring = (SPEND, *push(2, 3), ADD, unless(0))
        self.assertEqual(self.fold(ring), (SPEND, *push(5), unless(0)))

    def test_folded_within_what_is_come_to_from_elsewhere(self):
        code = (load("c0"), unless(4), *push(1), jump(5), *push(7), *push(2, 3), ADD, ADD, SAY)
        self.assertEqual(self.fold(code), (load("c0"), unless(4), *push(1), jump(5), *push(7, 5), ADD, SAY))

    def test_nothing_leads_to_it(self):
        self.assertEqual(self.fold((jump(3), SAY, ADD, SPEND)), (SPEND,))
        self.assertEqual(self.fold((jump(2), SAY)), ())
        self.assertEqual(self.fold((SPEND, jump(0), *push(1), jump(3))), (SPEND, jump(0)))
        # Jumps in a ring to which nothing leads.
        self.assertEqual(self.fold((jump(3), jump(2), jump(1), SPEND)), (SPEND,))
        # What was kept apart by what nothing leads to, or by a jump alone, comes together.
        self.assertEqual(self.fold((*push(1), jump(3), SAY, *push(2), jump(6), NOT, ADD, SAY)), (*push(3), SAY))

    def test_jumps_to_jumps(self):
        made = self.fold((load("x"), unless(4), SPEND, jump(6), jump(5), jump(2), ("gone",)))
        self.assertNotIn(jump(5), made)
        chain = tuple([jump(place + 1) for place in range(3000)])
        self.assertEqual(self.fold(chain), ())
        back = (jump(2999), jump(1), *[jump(place) for place in range(1, 2998)], SPEND)
        self.assertEqual(len(back), 3000)
        self.assertEqual(self.fold(back), (SPEND,))
        back = (jump(2998), jump(2999), *[jump(place) for place in range(1, 2998)], SPEND)
        self.assertEqual(self.fold(back), (SPEND,))

    def test_rings_through_a_spend(self):
        self.assertEqual(self.fold((jump(2), SPEND, jump(3), jump(1))), (SPEND, jump(0)))
        self.assertEqual(self.fold((SPEND, jump(2), jump(3), jump(0))), (SPEND, jump(0)))
        self.assertEqual(len(self.fold((SPEND, load("x"), unless(4), jump(0), jump(5), jump(3)))), 4)

    def test_unless_upon_a_number_that_is_known(self):
        for number in (0, 1, -1):
            code = (*push(number), unless(4), *push(8), jump(5), *push(9), SAY)
            self.assertEqual(self.says(*code), 9 if number == 0 else 8)
            code = (*push(number), NOT, unless(5), *push(8), jump(6), *push(9), SAY)
            self.assertEqual(self.says(*code), 8 if number == 0 else 9)
            ring = (SPEND, *push(number), unless(4), jump(0), *push(1), SAY)
            standing = grown_standing(random.Random(2))
            self.assert_same(ring, standing, arena(None))

    def test_fuel_that_ends_amid(self):
        for many in (98, 99, 100, 101, 102):
            code = (*[SPEND, *push(1), ("store", "s0"), jump(0)][:3] * many, *push(2, 3), ADD, ("store", "s1"))
            made = self.fold(code)
            self.assertEqual([one for one in made if one == SPEND], [SPEND] * many)
            self.assert_same(code, grown_standing(random.Random(many)), arena(None))

    def test_as_many_orders_as_may_be(self):
        code = (*push(1, 2), ADD, SAY) * 750
        self.assertEqual(self.fold(code), (*push(3), SAY) * 750)
        code = (*push(0), *(*push(1), ADD) * 1499, SAY)
        self.assertEqual(self.fold(code), (*push(1499), SAY))
        self.assertEqual(self.fold((SPEND,) * 3000), (SPEND,) * 3000)
        apart = tuple([one for at in range(750) for one in (*push(at), jump(4 * at + 3), SPEND, SAY)])
        self.assertEqual(len(apart), 3000)
        self.assertEqual(self.fold(apart), tuple([one for at in range(750) for one in (*push(at), SAY)]))


class Facts(Checked):
    def test_grown_codes_lead_to_the_same(self):
        chance = random.Random(52)
        shorter = 0
        other = Game(2, Ground(("....", ".57.", "#..#")), arena(None).kinds[:2], ())
        for number in range(700):
            code = Grower(chance).code()
            self.assert_same(code, grown_standing(chance), chance.choice([arena(None), other]))
            shorter += len(folded(code)) < len(code)
        self.assertGreater(shorter, 300)

    def test_compiled_handlers_lead_to_the_same(self):
        chance = random.Random(53)
        shorter = 0
        for _ in range(700):
            body = grown_handler(chance)
            standing = grown_standing(chance)
            code = compiled(body)
            made = self.fold(code)
            shorter += len(made) < len(code)
            game = arena({"tick": body})
            expected = ran(game, standing, 4, "tick", 9, 3, (1, 255))
            self.assertEqual(ran_code(game, standing, 4, made, 9, 3, (1, 255)), expected)
        self.assertGreater(shorter, 200)


class Wrong(unittest.TestCase):
    def test_what_is_no_safe_code(self):
        for code in [(ADD,), (jump(0),), (("push", 1),), (jump(2),), [SPEND], (("spend", 1),), (SPEND,) * 3001,
                     (*push(1), unless(3), *push(1), SAY), (*push(*range(61)), *[SAY] * 61)]:
            self.assertFalse(is_code(code))
            self.assertEqual(raised(folded, code), (NoCode, {}))

    def test_things_in_the_place_of_a_code(self):
        only_named(self, folded, (NoCode, {}), is_code)
        self.assertGreater(len([thing for thing in all_things() if is_code(thing)]), 0)


if __name__ == "__main__":
    unittest.main()
