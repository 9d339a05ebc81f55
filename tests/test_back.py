from itertools import combinations, product
from random import Random

from sweetsring import back
from sweetsring.back import count_ahead, least_ahead
from sweetsring.errors import BadSweets, TooMany
from sweetsring.games import Game
from sweetsring.rounds import after
from tests.helper import SweetCase, slow_round

GAME = Game(3, 2, (1,))
GREAT = 10 ** 30
# With how many sweets in all the results of rounds are looked for, by the number of children.
MOST_IN_ALL = {2: 40, 3: 18, 4: 9, 5: 6}


def all_games(children, parts):
    return [
        Game(children, parts, steps) for many in range(1, parts)
        for steps in combinations(range(1, children), many)
    ]


def rows_by_result(game, most):
    """For each row of at most so many sweets, all rows that a round turns into it, ascending."""
    found = {}
    # A round takes no sweets away, so no row ahead has more of them, nor has one of its children.
    for row in product(range(most + 1), repeat=game.children):
        found.setdefault(slow_round(game, row), []).append(row)
    return {row: ahead for row, ahead in found.items() if sum(row) <= most}


class BackTest(SweetCase):
    """Point [9]."""

    def check_back(self, many, least, game, sweets):
        self.check_result(many, count_ahead, game, sweets)
        self.check_result(least, least_ahead, game, sweets)

    def test_examples(self):
        self.check_back(8, (1, 1, 5), GAME, (4, 2, 4))
        self.check_back(0, None, GAME, (1, 0, 0))
        self.check_back(1, (0, 0, 0), GAME, (0, 0, 0))

    def test_by_a_search_over_all_rows(self):
        for children, most in MOST_IN_ALL.items():
            for parts in range(2, 10):
                for game in all_games(children, parts)[::3 if children == 5 else 1]:
                    found = rows_by_result(game, most)
                    for row, ahead in found.items():
                        if max(row) <= 20:
                            self.assertEqual(len(ahead), count_ahead(game, row), (parts, game.steps, row))
                            self.assertEqual(ahead[0], least_ahead(game, row))

    def test_rows_that_no_round_makes(self):
        for game in (Game(2, 2, (1,)), Game(3, 2, (2,)), Game(3, 3, (1, 2)), Game(4, 3, (2,)), Game(4, 4, (1, 3))):
            most = MOST_IN_ALL[game.children]
            found = rows_by_result(game, most)
            none = 0
            for row in product(range(most + 1), repeat=game.children):
                if sum(row) <= most and max(row) <= 20 and row not in found:
                    none += 1
                    self.assertEqual(0, count_ahead(game, row))
                    self.assertIsNone(least_ahead(game, row))
            self.assertGreater(none, 0)

    def test_what_a_round_made_is_found_again(self):
        chance = Random(9)
        for children in range(2, 6):
            for parts in (2, 3, 5, 9):
                for game in all_games(children, parts):
                    row = tuple(chance.randint(0, 20) for _ in range(children))
                    made = slow_round(game, row)
                    if max(made) <= 20:
                        least = least_ahead(game, made)
                        self.assertLessEqual(least, row)
                        self.assertEqual(made, after(game, least))
                        self.assertGreaterEqual(count_ahead(game, made), 1)

    def test_each_multiple_but_0_comes_of_as_many_numbers_as_there_are_parts(self):
        self.check_back(81, (1, 1), Game(2, 9, (1,)), (9, 9))
        # The children make parts of 1 and 0, of 0 and 1, and 1 and 1.
        self.check_back(9, (1, 0), Game(2, 9, (1,)), (8, 1))
        self.check_back(9, (0, 1), Game(2, 9, (1,)), (1, 8))
        # Both children get half of all, so the first one may have had nothing, or all.
        self.check_back(2 + 4 + 2, (0, 3), Game(2, 2, (1,)), (2, 2))
        self.check_back(0, None, Game(2, 2, (1,)), (2, 3))

    def test_several_rings(self):
        self.check_back(3, (1, 0, 0, 0), Game(4, 3, (2,)), (2, 0, 1, 0))
        self.check_back(3, (0, 0, 0, 1), Game(4, 3, (2,)), (0, 1, 0, 2))
        self.check_back(9, (1, 0, 0, 1), Game(4, 3, (2,)), (2, 1, 1, 2))

    def test_edges(self):
        self.check_back(32, (19,) * 5, Game(5, 2, (1,)), (20,) * 5)
        # Of each pair one has parts of 0 to 20, the other one the rest.
        self.check_back((19 * 4 + 2 * 2) ** 2, (0, 0, 39, 39), Game(4, 2, (2,)), (20,) * 4)
        # 20 sweets in five heaps: of 1 to 5 that are not empty, each of them of five numbers.
        ways = [5 * 1 * 5, 10 * 19 * 25, 10 * 171 * 125, 5 * 969 * 625, 3876 * 3125]
        self.check_back(sum(ways), (0, 0, 0, 0, 96), Game(5, 5, (1, 2, 3, 4)), (20,) * 5)
        self.check_back(1, (0,) * 5, Game(5, 9, (1, 2, 3, 4)), (0,) * 5)
        self.check_back(0, None, Game(2, 9, (1,)), (20, 0))
        self.check_back(0, None, Game(5, 2, (4,)), (0, 0, 0, 0, 20))


class TooManyTest(SweetCase):
    """Point [9]: at most 5 children and numbers of at most 20, looked at behind the sweets."""

    def check_too_many(self, game, sweets):
        self.check_raises(TooMany, None, count_ahead, game, sweets)
        self.check_raises(TooMany, None, least_ahead, game, sweets)

    def test_too_many_children(self):
        for children in range(6, 13):
            self.check_too_many(Game(children, 2, (1,)), (0,) * children)
            self.check_too_many(Game(children, 9, (1, 5)), (20,) * children)
        self.check_result(1, count_ahead, Game(5, 2, (1,)), (0,) * 5)

    def test_too_great_numbers(self):
        for number in (21, 22, 100, GREAT):
            for at in range(5):
                sweets = (0,) * at + (number,) + (0,) * (4 - at)
                self.check_too_many(Game(5, 2, (1,)), sweets)
            self.check_too_many(Game(2, 9, (1,)), (20, number))
            self.check_too_many(Game(6, 9, (1,)), (number,) * 6)
        self.check_result(32, count_ahead, Game(5, 2, (1,)), (20,) * 5)

    def test_sweets_are_looked_at_first(self):
        for call in (count_ahead, least_ahead):
            self.check_bad_sweets(call)
            self.check_raises(BadSweets, ("index", None), call, Game(6, 2, (1,)), (0,) * 5)
            self.check_raises(BadSweets, ("index", None), call, Game(6, 2, (1,)), [0] * 6)
            self.check_raises(BadSweets, ("index", 5), call, Game(6, 2, (1,)), (21,) * 5 + (True,))
            self.check_raises(BadSweets, ("index", 1), call, Game(2, 2, (1,)), (21, -1))
            self.check_raises(BadSweets, ("index", 1), call, Game(2, 2, (1,)), (21, GREAT + 1))


class InterfaceTest(SweetCase):
    """The interface: sweetsring/back.py."""

    def test_defined_in_its_file(self):
        self.assertEqual({back.__name__}, {count_ahead.__module__, least_ahead.__module__})

    def test_names_of_arguments(self):
        self.assertEqual(8, count_ahead(game=GAME, sweets=(4, 2, 4)))
        self.assertEqual((1, 1, 5), least_ahead(game=GAME, sweets=(4, 2, 4)))
