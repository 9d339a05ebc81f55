from sweetsring import ends
from sweetsring.ends import end, levels
from sweetsring.games import Game
from sweetsring.rounds import after, is_still
from tests.helper import GAMES, SweetCase, slow_fill, slow_rings, slow_rows, some_sweets

GAME = Game(3, 2, (1,))
GREAT = 10 ** 30


def slow_end(game, sweets):
    rows = slow_rows(game, sweets)
    # Gifts do not change how many sweets there are, so all that came came by filling up.
    return (rows[-1], len(rows) - 1, sum(rows[-1]) - sum(sweets))


def slow_levels(game, sweets):
    found = []
    for row in slow_rows(game, sweets):
        full = slow_fill(game, row)
        found.append([])
        for ring in slow_rings(game):
            own = sorted(full[child] for child in ring)
            found[-1].append((own[0], len([number for number in own if number == own[0]]), own[-1]))
    return found


class BadSweetsTest(SweetCase):
    """Point [4], for the functions of this file."""

    def test_bad_sweets(self):
        self.check_bad_sweets(end)
        self.check_bad_sweets(levels)


class EndTest(SweetCase):
    """Point [7]."""

    def test_examples(self):
        self.check_result(((4, 4, 4), 3, 3), end, GAME, (1, 2, 6))
        self.check_result(((3, 0, 3, 0), 2, 3), end, Game(4, 3, (2,)), (3, 0, 0, 0))

    def test_still_at_first(self):
        self.check_result(((0, 0, 0), 0, 0), end, GAME, (0, 0, 0))
        self.check_result(((4, 4, 4), 0, 0), end, GAME, (4, 4, 4))
        self.check_result(((GREAT, GREAT, GREAT), 0, 0), end, GAME, (GREAT, GREAT, GREAT))
        self.check_result(((3, 9, 3, 9), 0, 0), end, Game(4, 3, (2,)), (3, 9, 3, 9))

    def test_only_filled_up(self):
        self.check_result(((4, 4, 4), 1, 3), end, GAME, (3, 3, 3))
        self.check_result(((9, 9), 1, 16), end, Game(2, 9, (1,)), (1, 1))
        self.check_result(((GREAT + 8, GREAT + 8), 1, 16), end, Game(2, 9, (1,)), (GREAT, GREAT))

    def test_the_slowest_ring_tells_the_rounds(self):
        game = Game(4, 3, (2,))
        self.check_result(((3, 6, 3, 6), 2, 3), end, game, (3, 6, 0, 6))
        self.check_result(((6, 3, 6, 3), 2, 3), end, game, (6, 0, 6, 3))

    def test_by_the_slow_model(self):
        for seed, game in enumerate(GAMES):
            for sweets in some_sweets(game, seed):
                self.check_result(slow_end(game, sweets), end, game, sweets)

    def test_the_end_is_the_first_that_is_still(self):
        for game in (GAME, Game(4, 3, (2,)), Game(6, 4, (2, 4)), Game(3, 9, (1,))):
            for sweets in some_sweets(game, 7):
                numbers, many, _ = end(game, sweets)
                self.assertEqual(numbers, after(game, sweets, many))
                if many:
                    ahead = after(game, sweets, many - 1)
                    self.assertNotEqual(numbers, ahead)
                if max(numbers) <= GREAT:
                    self.assertTrue(is_still(game, numbers))

    def test_thirty_figures(self):
        numbers, many, spent = end(Game(12, 9, (1,)), (10 ** 30,) + (0,) * 11)
        self.assertEqual([numbers[0]] * 12, list(numbers))
        self.assertEqual(10 ** 30 + spent, sum(numbers))
        self.assertEqual(0, numbers[0] % 9)
        self.assertGreater(many, 2000)


class LevelTest(SweetCase):
    """Point [8]."""

    def test_examples(self):
        self.check_result([[(2, 2, 6)], [(2, 1, 4)], [(4, 3, 4)], [(4, 3, 4)]], levels, GAME, (1, 2, 6))

    def test_still_at_first(self):
        self.check_result([[(0, 3, 0)]], levels, GAME, (0, 0, 0))
        self.check_result([[(GREAT, 3, GREAT)]], levels, GAME, (GREAT, GREAT, GREAT))
        self.check_result([[(3, 2, 3), (9, 2, 9)]], levels, Game(4, 3, (2,)), (3, 9, 3, 9))

    def test_each_ring(self):
        expected = [[(0, 1, 3), (0, 2, 0)], [(3, 2, 3), (0, 2, 0)], [(3, 2, 3), (0, 2, 0)]]
        self.check_result(expected, levels, Game(4, 3, (2,)), (3, 0, 0, 0))
        expected = [[(0, 2, 0), (0, 1, 3)], [(0, 2, 0), (3, 2, 3)], [(0, 2, 0), (3, 2, 3)]]
        self.check_result(expected, levels, Game(4, 3, (2,)), (0, 0, 0, 3))

    def test_by_the_slow_model(self):
        for seed, game in enumerate(GAMES):
            for sweets in some_sweets(game, seed):
                self.check_result(slow_levels(game, sweets), levels, game, sweets)

    def test_one_sees_that_it_ends(self):
        for seed, game in enumerate(GAMES):
            for sweets in some_sweets(game, seed):
                found = levels(game, sweets)
                self.assertEqual(end(game, sweets)[1] + 1, len(found))
                for before, behind in zip(found, found[1:]):
                    for (least, many, greatest), (rise, fewer, fall) in zip(before, behind):
                        self.assertTrue(least == greatest or rise > least or (rise == least and fewer < many))
                        self.assertLessEqual(fall, greatest)

    def test_what_is_returned_is_new(self):
        found = levels(GAME, (3, 3, 3))
        found[0].append(None)
        found[1][0] = None
        found.append(None)
        self.check_result([[(4, 3, 4)], [(4, 3, 4)]], levels, GAME, (3, 3, 3))
        again = levels(GAME, (3, 3, 3))
        self.assertIsNot(again[0], again[1])


class InterfaceTest(SweetCase):
    """The interface: sweetsring/ends.py."""

    def test_defined_in_its_file(self):
        self.assertEqual({ends.__name__}, {end.__module__, levels.__module__})

    def test_names_of_arguments(self):
        self.assertEqual(((4, 4, 4), 1, 3), end(game=GAME, sweets=(3, 3, 3)))
        self.assertEqual([[(4, 3, 4)]], levels(game=GAME, sweets=(4, 4, 4)))
