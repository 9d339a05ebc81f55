from sweetsring import games
from sweetsring.errors import BadChildren, BadParts, BadSteps
from sweetsring.games import Game, rings
from tests.helper import ANY_VALUES, GAMES, SweetCase, slow_rings


def is_number(value, least, most):
    return value.__class__ is int and least <= value <= most


class Alike:
    """An object of another kind with the same attributes."""

    children = 3
    parts = 2
    steps = (1,)
    _children = 3
    _parts = 2
    _steps = (1,)


class GameTest(SweetCase):
    """Point [2]."""

    def check_steps(self, index, children, parts, steps):
        self.check_raises(BadSteps, ("index", index), Game, children, parts, steps)

    def test_properties(self):
        game = Game(5, 3, (1, 2))
        self.assertEqual((5, 3, (1, 2)), (game.children, game.parts, game.steps))
        game = Game(children=4, parts=9, steps=(3,))
        self.assertEqual((4, 9, (3,)), (game.children, game.parts, game.steps))
        for name in ("children", "parts", "steps"):
            self.assertIsInstance(vars(Game)[name], property)
            with self.assertRaises(AttributeError):
                setattr(game, name, 2)
        self.assertEqual((4, 9, (3,)), (game.children, game.parts, game.steps))

    def test_edges(self):
        for children, parts, steps in (
            (2, 2, (1,)), (2, 9, (1,)), (12, 2, (11,)), (12, 9, (1,)), (12, 9, (1, 2, 3, 4, 5, 6, 7, 8)),
            (12, 9, (4, 5, 6, 7, 8, 9, 10, 11)), (9, 9, (1, 2, 3, 4, 5, 6, 7, 8)), (3, 3, (1, 2)), (3, 9, (1, 2)),
        ):
            game = Game(children, parts, steps)
            self.assertEqual((children, parts, steps), (game.children, game.parts, game.steps))

    def test_equal_games(self):
        game = Game(3, 2, (1,))
        self.assertTrue(game == game)
        self.assertTrue(game == Game(3, 2, (1,)))
        self.assertFalse(game != Game(3, 2, (1,)))
        for other in (Game(4, 2, (1,)), Game(3, 3, (1,)), Game(3, 2, (2,)), Game(3, 3, (1, 2))):
            self.assertFalse(game == other)
            self.assertFalse(other == game)
            self.assertTrue(game != other)
        self.assertIn("__eq__", vars(Game))

    def test_equal_to_nothing_of_another_kind(self):
        game = Game(3, 2, (1,))
        for other in ANY_VALUES + [(3, 2, (1,)), [3, 2, (1,)], "ring 3 2 1", Alike(), Game]:
            self.assertIs(False, game == other)
            self.assertIs(False, other == game)
            self.assertIs(True, game != other)

    def test_bad_children(self):
        for value in (1, 13, 0, -2, 10 ** 30, True, False, None, "3", (3,), [3], {3: 3}):
            self.check_raises(BadChildren, None, Game, value, 2, (1,))
        for value in ANY_VALUES:
            if not is_number(value, 2, 12):
                self.check_raises(BadChildren, None, Game, value, 2, (1,))

    def test_bad_parts(self):
        for value in (1, 10, 0, -2, 10 ** 30, True, False, None, "2", (2,), [2], {2: 2}):
            self.check_raises(BadParts, None, Game, 3, value, (1,))
        for value in ANY_VALUES:
            if not is_number(value, 2, 9):
                self.check_raises(BadParts, None, Game, 3, value, (1,))

    def test_steps_that_are_no_tuple_or_too_few_or_too_many(self):
        for value in (None, True, 1, "1", [1], [], {1: 1}, [(1,)], ()):
            self.check_steps(None, 5, 4, value)
        self.check_steps(None, 5, 2, (1, 2))
        self.check_steps(None, 5, 3, (1, 2, 3))
        self.check_steps(None, 12, 9, (1, 2, 3, 4, 5, 6, 7, 8, 9))
        self.check_steps(None, 12, 9, (1, 2, 3, 4, 5, 6, 7, 8, 9, 10))
        # The number of things comes first, whatever they are.
        self.check_steps(None, 5, 2, (0, True))
        self.check_steps(None, 5, 3, (3, 2, 1))

    def test_first_bad_step(self):
        for step in (0, -1, 5, 6, 10 ** 30, True, False, None, "1", (1,), [1], {1: 1}):
            self.check_steps(0, 5, 4, (step,))
            self.check_steps(0, 5, 4, (step, step, 2))
            self.check_steps(1, 5, 4, (1, step))
            self.check_steps(2, 5, 4, (1, 2, step))
        self.check_steps(0, 2, 2, (2,))
        self.check_steps(0, 12, 2, (12,))

    def test_steps_that_do_not_ascend(self):
        self.check_steps(1, 5, 4, (1, 1))
        self.check_steps(1, 5, 4, (2, 1))
        self.check_steps(1, 5, 4, (3, 1, 4))
        self.check_steps(2, 5, 4, (1, 4, 4))
        self.check_steps(2, 5, 4, (2, 3, 1))
        self.check_steps(1, 5, 4, (3, 2, 9))

    def test_any_steps(self):
        for value in ANY_VALUES:
            if not isinstance(value, tuple) or len(value) not in (1, 2, 3):
                self.check_steps(None, 7, 4, value)
        for value in ANY_VALUES:
            if not is_number(value, 3, 6):
                self.check_steps(1, 7, 4, (2, value))

    def test_first_of_several_errors(self):
        for wrong in (None, True, 0, "a", [1]):
            self.check_raises(BadChildren, None, Game, wrong, wrong, wrong)
            self.check_raises(BadChildren, None, Game, wrong, 2, wrong)
            self.check_raises(BadParts, None, Game, 3, wrong, wrong)

    def test_an_error_changes_nothing(self):
        game = Game(3, 2, (1,))
        for arguments in ((13, 3, (1,)), (4, 10, (1,)), (4, 3, ()), (4, 3, (1, 1))):
            with self.assertRaises(ValueError):
                game.__init__(*arguments)
            self.assertEqual(Game(3, 2, (1,)), game)

    def test_defined_in_its_file(self):
        self.assertEqual({games.__name__}, {Game.__module__, rings.__module__})


class RingTest(SweetCase):
    """Point [3]."""

    def test_examples(self):
        self.check_result([(0, 1, 2)], rings, Game(3, 2, (1,)))
        self.check_result([(0, 2), (1, 3)], rings, Game(4, 3, (2,)))

    def test_one_ring(self):
        self.check_result([(0, 1)], rings, Game(2, 9, (1,)))
        self.check_result([(0, 1, 2, 3, 4)], rings, Game(5, 2, (4,)))
        self.check_result([tuple(range(12))], rings, Game(12, 2, (7,)))
        self.check_result([tuple(range(12))], rings, Game(12, 9, (1, 2, 3, 4, 5, 6, 7, 8)))
        # Neither step leads to all, but both of them do.
        self.check_result([(0, 1, 2, 3, 4, 5)], rings, Game(6, 3, (2, 3)))
        self.check_result([tuple(range(12))], rings, Game(12, 3, (8, 9)))

    def test_several_rings(self):
        self.check_result([(0, 3), (1, 4), (2, 5)], rings, Game(6, 2, (3,)))
        self.check_result([(0, 2, 4), (1, 3, 5)], rings, Game(6, 3, (2, 4)))
        self.check_result([(0, 2, 4, 6, 8, 10), (1, 3, 5, 7, 9, 11)], rings, Game(12, 3, (4, 6)))
        self.check_result([(0, 4, 8), (1, 5, 9), (2, 6, 10), (3, 7, 11)], rings, Game(12, 2, (8,)))
        self.check_result([(0, 3, 6), (1, 4, 7), (2, 5, 8)], rings, Game(9, 2, (6,)))
        self.check_result([(at, at + 6) for at in range(6)], rings, Game(12, 2, (6,)))

    def test_by_following_the_gifts(self):
        for game in GAMES:
            self.check_result(slow_rings(game), rings, game)
        for children in range(2, 13):
            for step in range(1, children):
                for other in range(step + 1, children):
                    game = Game(children, 3, (step, other))
                    self.assertEqual(slow_rings(game), rings(game))

    def test_what_is_returned_is_new(self):
        game = Game(4, 3, (2,))
        found = rings(game)
        found.append((9,))
        found[0] = None
        self.check_result([(0, 2), (1, 3)], rings, game)
        self.assertIsNot(rings(game), rings(game))
