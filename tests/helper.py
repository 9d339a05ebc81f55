"""What the tests share: values of all kinds, games to try, and a slow model of the rounds."""

import unittest
from random import Random

from sweetsring.errors import BadSweets
from sweetsring.games import Game
from sweetsring.parties import Party


def nested(kind, depth):
    """A value nested so deep."""
    value = 1
    for _ in range(depth):
        value = {"list": [value], "tuple": (value,), "dict": {"a": value}}[kind]
    return value


ANY_VALUES = [
    None, True, False, -1, 0, 1, 2, 3, 10 ** 30, 10 ** 31, -10 ** 40, "", "1", "ring 3 2 1", (), [], {},
    (None,), (True,), ("1",), [1], [1, 2, 6], (1, 2), (1, 2, 6), [(1, 2, 6)], [[1, 2, 6]], ((1, 2, 6), [4, 2, 4]),
    {0: 1, 1: 2, 2: 6}, {(1, 2): [3]}, {"a": {"b": (1, [None])}}, (1, (2, [3, {"a": False}]), 4), ({}, [], ()),
    nested("list", 40), nested("tuple", 40), nested("dict", 40),
]

GAMES = [
    Game(2, 2, (1,)), Game(2, 9, (1,)), Game(3, 2, (1,)), Game(3, 2, (2,)), Game(3, 3, (1, 2)), Game(3, 9, (1, 2)),
    Game(4, 3, (2,)), Game(4, 5, (2,)), Game(4, 4, (1, 2, 3)), Game(5, 4, (1, 3)), Game(6, 2, (3,)), Game(6, 3, (2,)),
    Game(6, 4, (2, 4)), Game(6, 7, (3, 4)), Game(8, 3, (2, 6)), Game(9, 5, (3, 6)), Game(9, 2, (8,)),
    Game(12, 9, (1,)), Game(12, 9, (1, 2, 3, 4, 5, 6, 7, 8)), Game(12, 9, (4, 5, 6, 7, 8, 9, 10, 11)),
    Game(12, 4, (4, 6)), Game(12, 3, (6,)), Game(12, 6, (3, 6, 9)), Game(12, 2, (11,)),
]


def some_sweets(game, seed):
    """Sweets of the game: small ones, great ones, and those at the edges."""
    chance = Random(seed)
    found = [(0,) * game.children, (10 ** 30,) * game.children, (10 ** 30,) + (0,) * (game.children - 1)]
    for most in (1, 9, 100, 10 ** 6, 10 ** 30):
        found.append(tuple(chance.randint(0, most) for _ in range(game.children)))
    return found


def slow_fill(game, numbers):
    """The numbers filled up, by the quotient rounded up."""
    return tuple((number + game.parts - 1) // game.parts * game.parts for number in numbers)


def slow_round(game, numbers):
    """The numbers behind a round, gift by gift."""
    full = slow_fill(game, numbers)
    hands = list(full)
    for child in range(game.children):
        for step in game.steps:
            hands[child] -= full[child] // game.parts
            hands[(child + step) % game.children] += full[child] // game.parts
    return tuple(hands)


def slow_rings(game):
    """The children that hang together, by following the gifts."""
    found = []
    for first in range(game.children):
        reached = {first}
        for _ in range(game.children):
            reached |= {(child + step) % game.children for child in reached for step in game.steps}
        ring = tuple(sorted(reached))
        if ring not in found:
            found.append(ring)
    return found


def slow_rows(game, sweets):
    """The rows from these sweets to those that change no more, gift by gift."""
    rows = [sweets]
    while slow_round(game, rows[-1]) != rows[-1]:
        rows.append(slow_round(game, rows[-1]))
    return rows


def first_bad(value, children, most):
    """What [4] and [6] say of a value as a row: the wrong index, None for all of it, "fine" for a good one."""
    if not isinstance(value, tuple) or len(value) != children:
        return None
    for index, number in enumerate(value):
        if number.__class__ is not int or number < 0 or most is not None and number > most:
            return index
    return "fine"


def shown_value(value):
    """One value as shown tells it."""
    if isinstance(value, Game):
        return (value.children, value.parts, value.steps)
    if isinstance(value, Party):
        return (shown_value(value.game), value.sweets, value.spent, len(value))
    return value


def shown(arguments):
    """The arguments as a text that tells True from 1, lists from tuples, and what games and parties hold."""
    return repr([shown_value(value) for value in arguments])


class SweetCase(unittest.TestCase):
    """A test case that looks at errors whole, and at what calls leave of their arguments."""

    def check_raises(self, kind, field, call, *arguments):
        """The call raises just this error, with (name, value) of its field or None, and modifies nothing."""
        before = shown(arguments)
        with self.assertRaises(kind) as caught:
            call(*arguments)
        self.assertIs(kind, caught.exception.__class__)
        if field is not None:
            name, value = field
            got = getattr(caught.exception, name)
            self.assertEqual((value, value.__class__), (got, got.__class__))
        self.assertEqual(before, shown(arguments))

    def check_result(self, expected, call, *arguments):
        """The call returns just this, of the same kinds throughout, each time, and modifies nothing."""
        before = shown(arguments)
        for _ in range(2):
            self.assertEqual(repr(expected), repr(call(*arguments)))
            self.assertEqual(before, shown(arguments))

    def check_bad_sweets(self, call, game=Game(3, 2, (1,))):
        """Point [4]: of all kinds of wrong sweets the call, of a game of three children and sweets, tells the index."""
        great = 10 ** 30
        for value in ([1, 2, 6], {0: 1, 1: 2, 2: 6}, (), (1, 2), (1, 2, 6, 0), ("a", None), "abc"):
            self.check_raises(BadSweets, ("index", None), call, game, value)
        for value in (-1, great + 1, -great, True, False, None, "1", (1,), [1], {1: 1}):
            self.check_raises(BadSweets, ("index", 0), call, game, (value, value, great))
            self.check_raises(BadSweets, ("index", 1), call, game, (0, value, None))
            self.check_raises(BadSweets, ("index", 2), call, game, (great, 1, value))
        for value in ANY_VALUES:
            index = first_bad(value, 3, great)
            if index != "fine":
                self.check_raises(BadSweets, ("index", index), call, game, value)
            if value.__class__ is not int or not 0 <= value <= great:
                self.check_raises(BadSweets, ("index", 1), call, game, (0, value, 6))
