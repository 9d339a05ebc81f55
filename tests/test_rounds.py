from sweetsring import rounds
from sweetsring.errors import BadRounds, BadRows, BadSweets
from sweetsring.games import Game
from sweetsring.rounds import after, filled, first_wrong, is_still, lacking
from tests.helper import ANY_VALUES, GAMES, SweetCase, first_bad, slow_fill, slow_rings, slow_round, some_sweets

GAME = Game(3, 2, (1,))
GREAT = 10 ** 30
SWEETS_CALLS = (filled, lacking, after, is_still)


class SweetsTest(SweetCase):
    """Point [4]: what is passed as sweets, to each function of the file."""

    def check_sweets(self, index, game, sweets):
        for call in SWEETS_CALLS:
            self.check_raises(BadSweets, ("index", index), call, game, sweets)

    def test_no_tuple_of_as_many_things(self):
        for value in (None, True, 3, "abc", [1, 2, 6], [], {0: 1, 1: 2, 2: 6}, (), (1, 2), (1, 2, 6, 0), ("a", None)):
            self.check_sweets(None, GAME, value)
        self.check_sweets(None, Game(2, 2, (1,)), (1,))
        self.check_sweets(None, Game(12, 2, (1,)), (1,) * 11)
        self.check_sweets(None, Game(12, 2, (1,)), (1,) * 13)

    def test_first_thing_that_is_no_such_integer(self):
        for value in (-1, GREAT + 1, True, False, None, "1", (1,), [1], {1: 1}, -GREAT):
            self.check_sweets(0, GAME, (value, 2, 6))
            self.check_sweets(1, GAME, (0, value, GREAT))
            self.check_sweets(2, GAME, (1, 2, value))
            self.check_sweets(0, GAME, (value, value, value))
            self.check_sweets(1, GAME, (1, value, None))
        self.check_sweets(11, Game(12, 2, (1,)), (1,) * 11 + (False,))

    def test_any_value(self):
        for value in ANY_VALUES:
            for game in (GAME, Game(2, 2, (1,))):
                index = first_bad(value, game.children, GREAT)
                if index != "fine":
                    self.check_sweets(index, game, value)
            if value.__class__ is not int or not 0 <= value <= GREAT:
                self.check_sweets(1, GAME, (0, value, 6))

    def test_edges(self):
        for call in SWEETS_CALLS:
            for sweets in ((0, 0, 0), (GREAT, GREAT, GREAT), (0, GREAT, 0)):
                call(GAME, sweets)


class FilledTest(SweetCase):
    """Point [4]."""

    def test_examples(self):
        self.check_result((2, 2, 6), filled, GAME, (1, 2, 6))
        self.check_result(1, lacking, GAME, (1, 2, 6))

    def test_least_multiples(self):
        game = Game(4, 9, (1,))
        self.check_result((0, 9, 9, 9), filled, game, (0, 1, 8, 9))
        self.check_result((18, 18, 27, 36), filled, game, (10, 18, 19, 35))
        self.check_result(9, lacking, game, (0, 1, 8, 9))
        self.check_result(17, lacking, game, (10, 18, 19, 35))
        self.check_result(0, lacking, game, (0, 9, 18, 900))

    def test_edges(self):
        self.check_result((0, 0, 0), filled, GAME, (0, 0, 0))
        self.check_result(0, lacking, GAME, (0, 0, 0))
        self.check_result((GREAT, GREAT, GREAT), filled, GAME, (GREAT, GREAT - 1, GREAT))
        self.check_result(1, lacking, GAME, (GREAT, GREAT - 1, GREAT))
        # 10 ** 30 leaves the rest 1 by 9 and by 3, so 8 and 2 lack.
        self.check_result((GREAT + 8, GREAT - 1), filled, Game(2, 9, (1,)), (GREAT, GREAT - 1))
        self.check_result(8, lacking, Game(2, 9, (1,)), (GREAT, GREAT - 1))
        self.check_result((GREAT + 2, 3), filled, Game(2, 3, (1,)), (GREAT, 1))
        self.check_result(4, lacking, Game(2, 3, (1,)), (GREAT, 1))

    def test_by_the_slow_model(self):
        for seed, game in enumerate(GAMES):
            for sweets in some_sweets(game, seed):
                full = slow_fill(game, sweets)
                self.check_result(full, filled, game, sweets)
                self.check_result(sum(full) - sum(sweets), lacking, game, sweets)


class AfterTest(SweetCase):
    """Point [5]."""

    def test_examples(self):
        self.check_result((4, 2, 4), after, GAME, (1, 2, 6))
        self.check_result((4, 4, 4), after, GAME, (1, 2, 6), 3)

    def test_one_round_if_none_is_told(self):
        self.assertEqual((1,), after.__defaults__)
        self.check_result(after(GAME, (1, 2, 6), 1), after, GAME, (1, 2, 6))
        self.assertEqual((4, 2, 4), after(game=GAME, sweets=(1, 2, 6)))
        self.assertEqual((4, 3, 3), after(game=GAME, sweets=(1, 2, 6), rounds=2))

    def test_gifts_go_steps_on(self):
        self.check_result((6, 3, 0, 0), after, Game(4, 3, (1,)), (9, 0, 0, 0))
        self.check_result((6, 0, 3, 0), after, Game(4, 3, (2,)), (9, 0, 0, 0))
        self.check_result((0, 3, 0, 6), after, Game(4, 3, (2,)), (0, 0, 0, 9))
        self.check_result((3, 6, 0, 0), after, Game(4, 3, (3,)), (0, 9, 0, 0))
        self.check_result((3, 3, 0, 3), after, Game(4, 3, (1, 3)), (9, 0, 0, 0))
        self.check_result((6, 1, 1, 1), after, Game(4, 9, (1, 2, 3)), (9, 0, 0, 0))

    def test_no_rounds_fill_nothing_up(self):
        self.check_result((1, 2, 6), after, GAME, (1, 2, 6), 0)
        self.check_result((0, 0, 0), after, GAME, (0, 0, 0), 0)
        self.check_result((GREAT, 1, 0), after, GAME, (GREAT, 1, 0), 0)

    def test_edges(self):
        self.check_result((4, 4, 4), after, GAME, (1, 2, 6), 2000)
        self.check_result((0, 0), after, Game(2, 2, (1,)), (0, 0), 2000)
        self.check_result((GREAT // 2, GREAT // 2, 0), after, GAME, (GREAT, 0, 0))
        self.check_result((GREAT + 8, GREAT + 8), after, Game(2, 9, (1,)), (GREAT, GREAT), 2000)

    def test_by_the_slow_model(self):
        for seed, game in enumerate(GAMES):
            for sweets in some_sweets(game, seed):
                numbers = sweets
                for many in range(8):
                    self.check_result(numbers, after, game, sweets, many)
                    numbers = slow_round(game, numbers)

    def test_many_rounds_by_the_slow_model(self):
        for game in (Game(12, 9, (1,)), Game(12, 3, (4, 6)), Game(6, 7, (3, 4))):
            numbers = sweets = tuple(range(GREAT, GREAT - 7 * game.children, -7))
            for many in range(1, 2001):
                numbers = slow_round(game, numbers)
                if many in (100, 1999, 2000):
                    self.assertEqual(numbers, after(game, sweets, many))

    def test_bad_rounds(self):
        for value in (-1, 2001, 10 ** 30, True, False, None, "1", (1,), [1], {1: 1}):
            self.check_raises(BadRounds, None, after, GAME, (1, 2, 6), value)
        for value in ANY_VALUES:
            if value.__class__ is not int or not 0 <= value <= 2000:
                self.check_raises(BadRounds, None, after, GAME, (1, 2, 6), value)

    def test_sweets_are_looked_at_first(self):
        for value in (-1, 2001, True, None, "1"):
            self.check_raises(BadSweets, ("index", None), after, GAME, [1, 2, 6], value)
            self.check_raises(BadSweets, ("index", 2), after, GAME, (1, 2, -6), value)


class StillTest(SweetCase):
    """Point [5]."""

    def test_examples(self):
        self.check_result(True, is_still, GAME, (4, 4, 4))
        self.check_result(False, is_still, GAME, (3, 3, 3))

    def test_several_rings(self):
        game = Game(4, 3, (2,))
        self.check_result(True, is_still, game, (3, 0, 3, 0))
        self.check_result(True, is_still, game, (3, 9, 3, 9))
        self.check_result(False, is_still, game, (3, 3, 0, 0))
        self.check_result(False, is_still, game, (3, 1, 3, 1))
        self.check_result(False, is_still, game, (6, 9, 3, 9))

    def test_edges(self):
        self.check_result(True, is_still, GAME, (0, 0, 0))
        self.check_result(True, is_still, GAME, (GREAT, GREAT, GREAT))
        self.check_result(False, is_still, GAME, (GREAT, GREAT, GREAT - 2))
        self.check_result(False, is_still, Game(2, 9, (1,)), (GREAT, GREAT))
        self.check_result(True, is_still, Game(2, 9, (1,)), (GREAT - 1, GREAT - 1))

    def test_all_alike_in_each_ring_and_multiples(self):
        for game in (GAME, Game(3, 3, (1, 2)), Game(4, 3, (2,)), Game(4, 2, (1,)), Game(4, 2, (3,))):
            for code in range(7 ** game.children):
                sweets = tuple(code // 7 ** child % 7 for child in range(game.children))
                alike = [len({sweets[child] for child in ring}) == 1 for ring in slow_rings(game)]
                even = [number % game.parts == 0 for number in sweets]
                self.assertIs(all(alike) and all(even), is_still(game, sweets))


class FirstWrongTest(SweetCase):
    """Point [6]."""

    def check_rows(self, index, rows, game=GAME):
        self.check_raises(BadRows, ("index", index), first_wrong, game, rows)

    def made(self, game, sweets, many):
        found = [sweets]
        while len(found) < many:
            found.append(slow_round(game, found[-1]))
        return found

    def test_examples(self):
        self.check_result(2, first_wrong, GAME, [(1, 2, 6), (4, 2, 4), (4, 3, 4)])
        self.check_result(None, first_wrong, GAME, [(1, 2, 6), (4, 2, 4)])

    def test_a_tuple_of_rows(self):
        self.check_result(2, first_wrong, GAME, ((1, 2, 6), (4, 2, 4), (4, 3, 4)))
        self.check_result(None, first_wrong, GAME, ((1, 2, 6), (4, 2, 4), (4, 3, 3), (4, 4, 4), (4, 4, 4)))

    def test_first_of_several(self):
        self.check_result(1, first_wrong, GAME, [(1, 2, 6), (4, 2, 5), (4, 3, 3)])
        self.check_result(1, first_wrong, GAME, [(1, 2, 6), (2, 2, 6), (4, 2, 4)])
        # Behind a wrong row the next one is judged by it, but the wrong one comes first.
        self.check_result(1, first_wrong, GAME, [(1, 2, 6), (4, 4, 4), (4, 4, 4)])
        self.check_result(3, first_wrong, GAME, [(1, 2, 6), (4, 2, 4), (4, 3, 3), (4, 3, 3), (4, 4, 4)])

    def test_edges(self):
        self.check_result(None, first_wrong, GAME, [(7, 0, 10 ** 31)])
        self.check_result(None, first_wrong, GAME, ((0, 0, 0),))
        rows = [(0, 0, 0)] * 200
        self.check_result(None, first_wrong, GAME, rows)
        self.check_result(199, first_wrong, GAME, rows[:-1] + [(0, 0, 1)])
        rows = self.made(Game(12, 9, (1,)), tuple(range(12)), 200)
        self.check_result(None, first_wrong, Game(12, 9, (1,)), rows)

    def test_numbers_have_no_upper_limit(self):
        first = (10 ** 40, 0, 2)
        self.check_result(None, first_wrong, GAME, [first, (5 * 10 ** 39 + 1, 5 * 10 ** 39, 1)])
        self.check_result(1, first_wrong, GAME, [first, (5 * 10 ** 39 + 1, 5 * 10 ** 39, 2)])

    def test_by_the_slow_model(self):
        for seed, game in enumerate(GAMES):
            for sweets in some_sweets(game, seed):
                rows = self.made(game, sweets, 6)
                self.check_result(None, first_wrong, game, rows)
                self.check_result(None, first_wrong, game, tuple(rows))
                for at in range(1, 6):
                    wrong = rows[at][:-1] + (rows[at][-1] + 1,)
                    self.check_result(at, first_wrong, game, rows[:at] + [wrong] + rows[at + 1:])

    def test_no_list_or_tuple_of_such_length(self):
        for value in (None, True, 1, "", "abc", {}, {0: (1, 2, 6)}, [], ()):
            self.check_rows(None, value)
        self.check_rows(None, [(0, 0, 0)] * 201)
        self.check_rows(None, ((0, 0, 0),) * 201)
        self.check_rows(None, [None] * 201)

    def test_first_thing_that_is_no_row(self):
        good = (4, 4, 4)
        for value in (
            None, True, 1, "abc", [4, 4, 4], {}, {0: 4, 1: 4, 2: 4}, (), (4, 4), (4, 4, 4, 4),
            (4, 4, -4), (True, 4, 4), (4, False, 4), (4, 4, None), (4, "4", 4), ((4,), 4, 4), (4, [4], 4),
        ):
            self.check_rows(0, [value])
            self.check_rows(0, (value, value))
            self.check_rows(1, [good, value])
            self.check_rows(2, [good, good, value, good, None])
            self.check_rows(199, [good] * 199 + [value])

    def test_rows_are_looked_at_before_rounds(self):
        self.check_rows(2, [(1, 2, 6), (9, 9, 9), None])
        self.check_rows(2, ((1, 2, 6), (4, 2, 4), [4, 3, 3]))

    def test_any_value(self):
        for value in ANY_VALUES:
            index = first_bad(value, 3, None)
            if index != "fine":
                self.check_rows(1, [(4, 4, 4), value])
            if not isinstance(value, (list, tuple)) or not value:
                self.check_rows(None, value)
            elif first_bad(value[0], 3, None) != "fine":
                self.check_rows(0, value)
            if value.__class__ is not int or value < 0:
                self.check_rows(1, [(4, 4, 4), (4, value, 4)])


class InterfaceTest(SweetCase):
    """The interface: sweetsring/rounds.py."""

    def test_defined_in_its_file(self):
        for call in SWEETS_CALLS + (first_wrong,):
            self.assertEqual(rounds.__name__, call.__module__)

    def test_names_of_arguments(self):
        for call in SWEETS_CALLS:
            call(game=GAME, sweets=(1, 2, 6))
        self.assertEqual(1, first_wrong(game=GAME, rows=[(1, 2, 6), (4, 4, 4)]))
