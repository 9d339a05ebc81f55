from itertools import product

from sweetsring import starts
from sweetsring.errors import BadMost, BadSeen, TooMany
from sweetsring.games import Game
from sweetsring.starts import ends_of, fitting, longest, rounds_of
from tests.helper import ANY_VALUES, SweetCase, slow_round, slow_rows

GAME = Game(2, 2, (1,))
RING = Game(3, 2, (1,))
FEW = [
    GAME, Game(2, 3, (1,)), Game(2, 9, (1,)), RING, Game(3, 2, (2,)), Game(3, 3, (1,)), Game(3, 3, (1, 2)),
    Game(3, 4, (2,)), Game(3, 5, (1, 2)), Game(3, 9, (1, 2)),
]
MANY = [Game(4, 2, (1,)), Game(4, 9, (1, 2, 3)), Game(5, 2, (1,)), Game(12, 9, (1, 2))]
CALLS = (ends_of, rounds_of, longest)


def no_most(value):
    return value.__class__ is not int or not 0 <= value <= 9


def slow_starts(game, most):
    return sorted(product(range(most + 1), repeat=game.children))


def slow_tally(things):
    return [(thing, things.count(thing)) for thing in sorted(set(things))]


def slow_fitting(game, most, seen):
    found = []
    for start in slow_starts(game, most):
        rows = [start]
        while len(rows) <= 50:
            rows.append(slow_round(game, rows[-1]))
        if all(rows[behind][child] == number for behind, child, number in seen):
            found.append(start)
    return found


class StartsTest(SweetCase):
    """Point [10]."""

    def test_examples(self):
        self.check_result([((0, 0), 1), ((2, 2), 8)], ends_of, GAME, 2)
        self.check_result([(0, 2), (1, 3), (2, 4)], rounds_of, GAME, 2)
        self.check_result((2, (0, 1)), longest, GAME, 2)

    def test_no_sweets(self):
        self.check_result([((0, 0, 0), 1)], ends_of, RING, 0)
        self.check_result([(0, 1)], rounds_of, RING, 0)
        self.check_result((0, (0, 0, 0)), longest, RING, 0)
        self.check_result([((0, 0), 1)], ends_of, GAME, 0)

    def test_one_sweet_at_most(self):
        self.check_result([((0, 0), 1), ((2, 2), 3)], ends_of, GAME, 1)
        self.check_result([(0, 1), (1, 1), (2, 2)], rounds_of, GAME, 1)
        # (1, 0) takes two rounds as well.
        self.check_result((2, (0, 1)), longest, GAME, 1)

    def test_by_a_walk_over_all_starts(self):
        for game in FEW:
            for most in (0, 1, 2, 5, 9):
                rows = [slow_rows(game, start) for start in slow_starts(game, most)]
                many = [len(row) - 1 for row in rows]
                self.check_result(slow_tally([row[-1] for row in rows]), ends_of, game, most)
                self.check_result(slow_tally(many), rounds_of, game, most)
                self.check_result((max(many), rows[many.index(max(many))][0]), longest, game, most)

    def test_all_starts_are_counted(self):
        for game in FEW:
            for most in range(10):
                whole = (most + 1) ** game.children
                self.assertEqual(whole, sum(many for _, many in ends_of(game, most)))
                self.assertEqual(whole, sum(many for _, many in rounds_of(game, most)))
                self.assertEqual(longest(game, most)[0], rounds_of(game, most)[-1][0])

    def test_what_is_returned_is_new(self):
        for call in (ends_of, rounds_of):
            found = call(GAME, 2)
            found.append(None)
            found[0] = None
            self.assertNotIn(None, call(GAME, 2))
            self.assertIsNot(call(GAME, 2), call(GAME, 2))

    def test_bad_most(self):
        for call in CALLS:
            for value in (-1, 10, 10 ** 30, True, False, None, "1", (1,), [1], {1: 1}):
                self.check_raises(BadMost, None, call, GAME, value)
                self.check_raises(BadMost, None, call, RING, value)
            for value in ANY_VALUES:
                if no_most(value):
                    self.check_raises(BadMost, None, call, GAME, value)

    def test_too_many_children(self):
        for call in CALLS:
            for game in MANY:
                for most in [0, 9, 10, -1] + ANY_VALUES:
                    self.check_raises(TooMany, None, call, game, most)


class FittingTest(SweetCase):
    """Point [11]."""

    def check_seen(self, index, seen, game=GAME):
        self.check_raises(BadSeen, ("index", index), fitting, game, 2, seen)

    def test_examples(self):
        self.check_result([(0, 1), (0, 2), (1, 0), (2, 0)], fitting, GAME, 2, [(1, 0, 1)])
        self.assertEqual(9, len(fitting(GAME, 2, [])))

    def test_nothing_seen(self):
        for seen in ([], ()):
            self.check_result([(0, 0), (0, 1), (1, 0), (1, 1)], fitting, GAME, 1, seen)
            for game in FEW:
                self.check_result(slow_starts(game, 3), fitting, game, 3, seen)
        self.check_result([(0, 0, 0)], fitting, RING, 0, [])

    def test_at_first(self):
        self.check_result([(1, 0), (1, 1), (1, 2)], fitting, GAME, 2, [(0, 0, 1)])
        self.check_result([(0, 2), (1, 2), (2, 2)], fitting, GAME, 2, ((0, 1, 2),))
        self.check_result([(1, 2)], fitting, GAME, 2, [(0, 1, 2), (0, 0, 1)])

    def test_what_cannot_be_together(self):
        self.check_result([], fitting, GAME, 9, [(0, 0, 1), (0, 0, 2)])
        self.check_result([], fitting, RING, 9, [(3, 0, 4), (4, 0, 2)])
        self.check_result([(1, 2)], fitting, GAME, 9, [(0, 0, 1), (0, 1, 2), (0, 0, 1), (50, 1, 2)])

    def test_numbers_that_no_start_has(self):
        for number in (3, 10, 10 ** 30, 10 ** 40):
            self.check_result([], fitting, GAME, 2, [(0, 0, number)])
            self.check_result([], fitting, GAME, 2, [(50, 1, number)])

    def test_the_last_round(self):
        self.check_result([(0, 0)], fitting, GAME, 2, [(50, 1, 0)])
        self.check_result(slow_starts(GAME, 2)[1:], fitting, GAME, 2, [(50, 0, 2), (49, 1, 2), (2, 0, 2)])
        many, start = longest(RING, 9)
        rows = slow_rows(RING, start)
        self.assertIn(start, fitting(RING, 9, [(many, 0, rows[-1][0]), (50, 0, rows[-1][0])]))

    def test_by_a_walk_over_all_starts(self):
        for game in FEW:
            last = game.children - 1
            for seen in (
                [(0, last, 0)], [(1, 0, 2)], [(1, last, 1)], ((2, 1, 3),), [(3, 0, 4)], [(1, 0, 3), (2, last, 3)],
                [(50, 0, 9)], ((0, 0, 1), (1, 1, 2)), [(1, 1, 2), (4, 0, 4)], [(49, last, 6), (0, 0, 3)],
            ):
                for most in (0, 1, 5):
                    self.check_result(slow_fitting(game, most, seen), fitting, game, most, seen)

    def test_each_start_is_told_by_what_is_seen_of_it(self):
        for game in (GAME, RING, Game(3, 3, (1, 2))):
            for start in slow_starts(game, 9)[::37]:
                seen = [(0, child, number) for child, number in enumerate(start)]
                behind = slow_round(game, start)
                seen += [(1, child, number) for child, number in enumerate(behind)]
                self.check_result([start], fitting, game, 9, seen)
                self.check_result([start], fitting, game, 9, tuple(seen))
                self.check_result([], fitting, game, 9, seen + [(1, 0, behind[0] + 1)])

    def test_long_lists(self):
        self.check_result([(2, 2)], fitting, GAME, 2, [(at % 51, at % 2, 2) for at in range(1000)])

    def test_what_is_returned_is_new(self):
        found = fitting(GAME, 1, [])
        found.append(None)
        found[0] = None
        self.check_result([(0, 0), (0, 1), (1, 0), (1, 1)], fitting, GAME, 1, [])

    def test_no_list_or_tuple(self):
        for value in (None, True, 0, 1, "", "abc", {}, {(1, 0, 1): 1}, {0: (1, 0, 1)}):
            self.check_seen(None, value)

    def test_first_thing_that_is_no_such_tuple(self):
        good = (1, 0, 1)
        for value in (
            None, True, 1, "abc", [1, 0, 1], {}, {0: 1, 1: 0, 2: 1}, (), (1, 0), (1, 0, 1, 1), (good,),
            (-1, 0, 1), (51, 0, 1), (True, 0, 1), (None, 0, 1), ("1", 0, 1), ((1,), 0, 1), ([1], 0, 1),
            (1, -1, 1), (1, 2, 1), (1, False, 1), (1, True, 1), (1, None, 1), (1, "0", 1), (1, (0,), 1), (1, {}, 1),
            (1, 0, -1), (1, 0, True), (1, 0, False), (1, 0, None), (1, 0, "1"), (1, 0, (1,)), (1, 0, [1]),
        ):
            self.check_seen(0, [value])
            self.check_seen(0, (value, value))
            self.check_seen(1, [good, value])
            self.check_seen(2, [(50, 1, 10 ** 40), (0, 0, 0), value, good, None])

    def test_children_of_the_game(self):
        self.check_result([(0, 0, 0)], fitting, RING, 2, [(50, 2, 0)])
        self.check_seen(0, [(50, 3, 0)], RING)
        self.check_seen(0, [(50, 2, 0)], GAME)

    def test_any_value(self):
        for value in ANY_VALUES:
            self.check_seen(1, [(1, 0, 1), value])
            if not isinstance(value, (list, tuple)):
                self.check_seen(None, value)
            elif value:
                self.check_seen(0, value)
            if value.__class__ is not int or not 0 <= value <= 50:
                self.check_seen(0, [(value, 0, 1)])
            if value.__class__ is not int or not 0 <= value <= 1:
                self.check_seen(0, [(0, value, 1)])
            if value.__class__ is not int or value < 0:
                self.check_seen(0, [(0, 1, value)])

    def test_errors_in_their_order(self):
        for game in MANY:
            for most in (2, 10, None, True):
                for seen in ([], None, [None]):
                    self.check_raises(TooMany, None, fitting, game, most, seen)
        for most in (-1, 10, None, True, False, "1", (1,)):
            for seen in ([], None, [None], [(51, 0, 0)]):
                self.check_raises(BadMost, None, fitting, GAME, most, seen)
        for value in ANY_VALUES:
            if no_most(value):
                self.check_raises(BadMost, None, fitting, GAME, value, [])


class InterfaceTest(SweetCase):
    """The interface: sweetsring/starts.py."""

    def test_defined_in_its_file(self):
        for call in CALLS + (fitting,):
            self.assertEqual(starts.__name__, call.__module__)

    def test_names_of_arguments(self):
        for call in CALLS:
            self.assertEqual(call(GAME, 3), call(game=GAME, most=3))
        self.assertEqual([(2, 2)], fitting(game=GAME, most=2, seen=[(0, 0, 2), (0, 1, 2)]))
