from random import Random

from sweetsring import parties
from sweetsring.errors import BadChild, BadGift, BadSweets
from sweetsring.games import Game
from sweetsring.parties import Party
from tests.helper import ANY_VALUES, GAMES, SweetCase, slow_fill, slow_round, slow_rows, some_sweets

GAME = Game(3, 2, (1,))
GREAT = 10 ** 30


class Model:
    """What stands, as an own list of rows and of the sweets filled up, one for each step, and how many stand."""

    def __init__(self, game, sweets):
        self.game = game
        self.stands = [(sweets, 0)]
        self.at = 0

    def step(self, numbers, spent):
        self.stands = self.stands[:self.at + 1] + [(numbers, self.stands[self.at][1] + spent)]
        self.at += 1

    def do(self, word, *arguments):
        """What the method called so returns."""
        sweets = self.stands[self.at][0]
        if word == "play":
            spent = sum(slow_fill(self.game, sweets)) - sum(sweets)
            self.step(slow_round(self.game, sweets), spent)
            return spent
        if word == "give":
            child, many = arguments
            self.step(sweets[:child] + (sweets[child] + many,) + sweets[child + 1:], 0)
            return sweets[child] + many
        if word == "finish":
            rows = slow_rows(self.game, sweets)
            self.step(rows[-1], sum(rows[-1]) - sum(sweets))
            return len(rows) - 1
        there = self.at > 0 if word == "undo" else self.at < len(self.stands) - 1
        if there:
            self.at += -1 if word == "undo" else 1
        return there

    def copy(self):
        twin = Model(self.game, None)
        twin.stands = list(self.stands)
        twin.at = self.at
        return twin


class PartyCase(SweetCase):

    def check_party(self, sweets, spent, many, party):
        self.assertEqual((repr(sweets), repr(spent), repr(many)),
                         (repr(party.sweets), repr(party.spent), repr(len(party))))

    def check_step(self, expected, call, *arguments):
        """The call returns just this, of the same kind."""
        self.assertEqual(repr(expected), repr(call(*arguments)))


class PartyTest(PartyCase):
    """Point [12]."""

    def test_examples(self):
        party = Party(GAME, (1, 2, 6))
        found = [party.play(), party.sweets, party.spent, party.give(1, -2), party.sweets, party.finish(), party.sweets]
        found = found + [party.spent, len(party), party.undo(), party.sweets, party.spent, party.redo()]
        found.append(party.copy().spent)
        expected = [1, (4, 2, 4), 1, 0, (4, 0, 4), 4, (4, 4, 4), 5, 3, True, (4, 0, 4), 1, True, 5]
        self.assertEqual(repr(expected), repr(found))

    def test_at_first(self):
        for sweets in ((1, 2, 6), (0, 0, 0), (GREAT, GREAT, GREAT)):
            party = Party(GAME, sweets)
            self.check_party(sweets, 0, 0, party)
            self.assertIs(GAME, party.game)

    def test_properties(self):
        party = Party(GAME, (1, 2, 6))
        for name in ("game", "sweets", "spent"):
            self.assertIsInstance(vars(Party)[name], property)
            with self.assertRaises(AttributeError):
                setattr(party, name, 5)
        self.check_party((1, 2, 6), 0, 0, party)

    def test_bad_sweets(self):
        self.check_bad_sweets(Party)
        self.check_raises(BadSweets, ("index", None), Party, Game(12, 2, (1,)), (1,) * 11)
        self.check_raises(BadSweets, ("index", 11), Party, Game(12, 2, (1,)), (1,) * 11 + (False,))

    def test_play(self):
        party = Party(GAME, (1, 2, 6))
        for spent, row, whole in ((1, (4, 2, 4), 1), (0, (4, 3, 3), 1), (2, (4, 4, 4), 3), (0, (4, 4, 4), 3)):
            self.check_step(spent, party.play)
            many = len(party)
            self.check_party(row, whole, many, party)
        self.check_party((4, 4, 4), 3, 4, party)

    def test_give(self):
        party = Party(GAME, (1, 2, 6))
        self.check_step(8, party.give, 2, 2)
        self.check_party((1, 2, 8), 0, 1, party)
        self.check_step(0, party.give, 0, -1)
        self.check_party((0, 2, 8), 0, 2, party)
        self.check_step(2, party.give, 1, 0)
        self.check_party((0, 2, 8), 0, 3, party)

    def test_finish(self):
        party = Party(GAME, (1, 2, 6))
        self.check_step(3, party.finish)
        self.check_party((4, 4, 4), 3, 1, party)
        self.check_step(0, party.finish)
        self.check_party((4, 4, 4), 3, 2, party)
        self.check_step(2, party.give, 0, -2)
        self.check_step(2, party.finish)
        self.check_party((4, 4, 4), 5, 4, party)

    def test_edges_of_gifts(self):
        party = Party(GAME, (5, 0, GREAT))
        self.check_step(0, party.give, 0, -5)
        self.check_step(GREAT, party.give, 1, GREAT)
        self.check_step(0, party.give, 2, -GREAT)
        self.check_step(GREAT, party.give, 0, GREAT)
        self.check_party((GREAT, GREAT, 0), 0, 4, party)
        for child, many in ((0, 1), (1, 1), (2, -1), (0, GREAT), (0, -GREAT - 1), (2, GREAT + 1), (1, 10 ** 40)):
            self.check_raises(BadGift, None, party.give, child, many)
        self.check_party((GREAT, GREAT, 0), 0, 4, party)
        self.check_step(GREAT, party.give, 1, 0)
        self.check_step(0, party.give, 2, 0)

    def test_a_little_above(self):
        """A round may leave more than may be passed; one can go on from there."""
        game = Game(2, 9, (1,))
        for call, spent in (("play", 16), ("finish", 1)):
            party = Party(game, (GREAT, GREAT))
            self.check_step(spent, getattr(party, call))
            self.check_party((GREAT + 8, GREAT + 8), 16, 1, party)
            for many in (0, 1, -7):
                self.check_raises(BadGift, None, party.give, 0, many)
            twin = party.copy()
            self.check_party((GREAT + 8, GREAT + 8), 16, 1, twin)
            self.check_step(GREAT, party.give, 0, -8)
            self.check_step(8, party.play)
            self.check_step(True, party.undo)
            self.check_party((GREAT, GREAT + 8), 16, 2, party)
            self.check_step(0, twin.play)
            self.check_step(0, twin.finish)
            self.check_party((GREAT + 8, GREAT + 8), 16, 3, twin)

    def test_bad_child(self):
        party = Party(GAME, (1, 2, 6))
        for value in ANY_VALUES + [-1, 3, 12, 10 ** 40]:
            if value.__class__ is not int or not 0 <= value <= 2:
                for many in (1, 0, -100, GREAT, True, None, "1"):
                    self.check_raises(BadChild, None, party.give, value, many)
        self.check_raises(BadChild, None, Party(Game(2, 2, (1,)), (1, 2)).give, 2, 1)
        self.check_step(1, Party(Game(12, 2, (1,)), (0,) * 12).give, 11, 1)
        self.check_party((1, 2, 6), 0, 0, party)

    def test_bad_gift(self):
        party = Party(GAME, (1, 2, 6))
        for value in ANY_VALUES + [[1], {1: 1}, (1,), "-1"]:
            if value.__class__ is not int or not -1 <= value < GREAT:
                self.check_raises(BadGift, None, party.give, 0, value)
        for value in (True, False, None):
            self.check_raises(BadGift, None, party.give, 2, value)
        self.check_party((1, 2, 6), 0, 0, party)


class UndoTest(PartyCase):
    """Point [12]."""

    def test_none_there(self):
        party = Party(GAME, (1, 2, 6))
        self.check_step(False, party.undo)
        self.check_step(False, party.redo)
        self.check_party((1, 2, 6), 0, 0, party)
        party.play()
        self.check_step(False, party.redo)
        self.check_step(True, party.undo)
        self.check_step(False, party.undo)
        self.check_party((1, 2, 6), 0, 0, party)
        self.check_step(True, party.redo)
        self.check_step(False, party.redo)
        self.check_party((4, 2, 4), 1, 1, party)

    def test_there_and_back(self):
        party = Party(GAME, (1, 2, 6))
        stood = [((1, 2, 6), 0)]
        for call, arguments in (("play", ()), ("give", (0, 3)), ("play", ()), ("finish", ()), ("give", (2, -4))):
            getattr(party, call)(*arguments)
            stood.append((party.sweets, party.spent))
        for _ in range(2):
            for at in (4, 3, 2, 1, 0):
                self.check_step(True, party.undo)
                self.check_party(*stood[at], at, party)
            self.check_step(False, party.undo)
            for at in (1, 2, 3, 4, 5):
                self.check_step(True, party.redo)
                self.check_party(*stood[at], at, party)
            self.check_step(False, party.redo)

    def test_steps_that_change_nothing(self):
        party = Party(GAME, (4, 4, 4))
        self.check_step(0, party.play)
        self.check_step(4, party.give, 1, 0)
        self.check_step(0, party.finish)
        for many in (2, 1, 0):
            self.check_step(True, party.undo)
            self.check_party((4, 4, 4), 0, many, party)
        self.check_step(False, party.undo)
        for many in (1, 2, 3):
            self.check_step(True, party.redo)
            self.check_party((4, 4, 4), 0, many, party)
        self.check_step(False, party.redo)

    def test_finish_is_one_step(self):
        party = Party(GAME, (1, 2, 6))
        party.finish()
        self.check_step(True, party.undo)
        self.check_party((1, 2, 6), 0, 0, party)

    def test_no_redo_behind_another_step(self):
        for call, arguments in (("play", ()), ("give", (1, 0)), ("finish", ())):
            party = Party(GAME, (4, 4, 4))
            party.give(0, 2)
            party.give(0, 2)
            party.undo()
            party.undo()
            getattr(party, call)(*arguments)
            self.check_step(False, party.redo)
            self.check_party((4, 4, 4), 0, 1, party)
            self.check_step(True, party.undo)
            # What was taken back just now is there again, what was taken back before is not.
            self.check_step(True, party.redo)
            self.check_step(False, party.redo)
            self.check_party((4, 4, 4), 0, 1, party)

    def test_errors_leave_what_was_taken_back(self):
        party = Party(GAME, (1, 2, 6))
        party.play()
        party.give(0, 5)
        party.undo()
        self.check_raises(BadGift, None, party.give, 0, -5)
        self.check_raises(BadGift, None, party.give, 0, None)
        self.check_raises(BadChild, None, party.give, 3, 0)
        self.check_party((4, 2, 4), 1, 1, party)
        self.check_step(True, party.redo)
        self.check_party((9, 2, 4), 1, 2, party)
        self.check_raises(BadGift, None, party.give, 1, -3)
        self.check_step(True, party.undo)
        self.check_step(True, party.undo)
        self.check_party((1, 2, 6), 0, 0, party)


class CopyTest(PartyCase):
    """Point [12]."""

    def start(self):
        """A party with two steps that stand and two that were taken back."""
        party = Party(GAME, (1, 2, 6))
        party.play()
        party.give(0, 1)
        party.give(1, 1)
        party.finish()
        party.undo()
        party.undo()
        self.check_party((5, 2, 4), 1, 2, party)
        return party

    def test_stands_as_its_party(self):
        party = self.start()
        twin = party.copy()
        self.assertIs(Party, twin.__class__)
        self.assertIsNot(party, twin)
        self.assertTrue(twin.game == GAME)
        self.check_party((5, 2, 4), 1, 2, twin)
        self.check_party((5, 2, 4), 1, 2, party)

    def test_has_the_steps_and_those_that_were_taken_back(self):
        for twin in (self.start().copy(), self.start().copy().copy()):
            self.check_step(True, twin.redo)
            self.check_party((5, 3, 4), 1, 3, twin)
            self.check_step(True, twin.redo)
            self.check_party((6, 6, 6), 7, 4, twin)
            self.check_step(False, twin.redo)
            for row, spent, many in (((5, 3, 4), 1, 3), ((5, 2, 4), 1, 2), ((4, 2, 4), 1, 1), ((1, 2, 6), 0, 0)):
                self.check_step(True, twin.undo)
                self.check_party(row, spent, many, twin)
            self.check_step(False, twin.undo)

    def test_goes_on_apart(self):
        for first_goes_on in (True, False):
            party = self.start()
            twin = party.copy()
            going, staying = (party, twin) if first_goes_on else (twin, party)
            going.undo()
            going.undo()
            going.give(2, 3)
            going.play()
            self.check_party((6, 2, 6), 2, 2, going)
            self.check_step(False, going.redo)
            self.check_party((5, 2, 4), 1, 2, staying)
            self.check_step(True, staying.redo)
            self.check_step(True, staying.redo)
            self.check_party((6, 6, 6), 7, 4, staying)
            self.check_party((6, 2, 6), 2, 2, going)
            for _ in range(4):
                self.check_step(True, staying.undo)
            self.check_party((1, 2, 6), 0, 0, staying)

    def test_a_copy_at_first(self):
        twin = Party(GAME, (1, 2, 6)).copy()
        self.check_party((1, 2, 6), 0, 0, twin)
        self.check_step(False, twin.undo)
        self.check_step(False, twin.redo)


class ModelTest(PartyCase):
    """Point [12], by an own list of what stands."""

    def some_step(self, chance, model):
        """A step that may be done, or undo or redo."""
        word = chance.choice(["play", "play", "give", "give", "finish", "undo", "undo", "redo", "redo", "redo"])
        if word != "give":
            return (word,)
        child = chance.randrange(model.game.children)
        has = model.stands[model.at][0][child]
        most = chance.choice([3, 100, GREAT])
        least, greatest = max(-has, -most), min(GREAT - has, most)
        # A round may have left a little more than a gift may leave.
        return (word, child, chance.randint(least, greatest) if least <= greatest else greatest)

    def test_by_an_own_list(self):
        chance = Random(12)
        for seed, game in enumerate(GAMES):
            for sweets in some_sweets(game, seed)[:6]:
                pairs = [(Party(game, sweets), Model(game, sweets))]
                for _ in range(40):
                    party, model = chance.choice(pairs)
                    step = self.some_step(chance, model)
                    self.check_step(model.do(*step), getattr(party, step[0]), *step[1:])
                    if chance.random() < 0.05:
                        pairs.append((party.copy(), model.copy()))
                    for party, model in pairs:
                        self.check_party(*model.stands[model.at], model.at, party)
                        self.assertIs(game, party.game)


class InterfaceTest(PartyCase):
    """The interface: sweetsring/parties.py, and point [1]."""

    def test_defined_in_its_file(self):
        self.assertEqual(parties.__name__, Party.__module__)
        for name in ("play", "give", "finish", "undo", "redo", "copy", "__len__"):
            self.assertEqual(parties.__name__, vars(Party)[name].__module__)

    def test_names_of_arguments(self):
        party = Party(game=GAME, sweets=(1, 2, 6))
        self.assertEqual(4, party.give(child=1, many=2))

    def test_equal_to_nothing_of_another_kind(self):
        party = Party(GAME, (1, 2, 6))
        for other in ANY_VALUES + [GAME, Party]:
            self.assertFalse(party == other)
            self.assertTrue(party != other)
        self.assertFalse(GAME == party)

    def test_what_is_returned_stays_as_it_is(self):
        party = Party(GAME, (1, 2, 6))
        before = party.sweets
        party.play()
        self.assertEqual((1, 2, 6), before)
        self.assertEqual((party.sweets, party.spent, len(party)), (party.sweets, party.spent, len(party)))
        self.assertTrue(party.game == Game(3, 2, (1,)))
