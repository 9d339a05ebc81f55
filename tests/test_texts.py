from itertools import combinations

from sweetsring import texts
from sweetsring.errors import BadText
from sweetsring.games import Game
from sweetsring.texts import read, write
from tests.helper import ANY_VALUES, GAMES, SweetCase

# Figures that are not 0 to 9, though int or isdigit may take them: Arabic, full width, raised, circled, Roman.
FOREIGN = ["\u0663", "\uff13", "\u00b3", "\u2462", "\u2162"]


def some_games():
    found = list(GAMES)
    for children in range(2, 13):
        for parts in range(2, 10):
            for many in range(1, min(children, parts)):
                found.extend(Game(children, parts, steps) for steps in list(combinations(range(1, children), many))[:9])
    return found


class WriteTest(SweetCase):
    """Point [13]."""

    def test_examples(self):
        self.check_result("ring 5 3 1 2", write, Game(5, 3, (1, 2)))

    def test_edges(self):
        self.check_result("ring 2 2 1", write, Game(2, 2, (1,)))
        self.check_result("ring 2 9 1", write, Game(2, 9, (1,)))
        self.check_result("ring 12 2 11", write, Game(12, 2, (11,)))
        self.check_result("ring 12 9 4 5 6 7 8 9 10 11", write, Game(12, 9, (4, 5, 6, 7, 8, 9, 10, 11)))

    def test_there_and_back(self):
        for game in some_games():
            again = read(write(game))
            self.assertTrue(again == game)
            self.assertIs(Game, again.__class__)
            self.assertEqual(write(game), write(again))

    def test_unlike_games_have_unlike_texts(self):
        found = {}
        for game in some_games():
            self.assertTrue(found.setdefault(write(game), game) == game)
        self.assertGreater(len(found), 500)


class ReadTest(SweetCase):
    """Point [13]."""

    def check_text(self, word, text):
        self.check_raises(BadText, ("word", word), read, text)

    def check_read(self, children, parts, steps, text):
        game = read(text)
        self.assertIs(Game, game.__class__)
        self.assertEqual(repr((children, parts, steps)), repr((game.children, game.parts, game.steps)))
        self.assertTrue(read(text) == game)
        self.assertIsNot(game, read(text))

    def test_examples(self):
        self.check_read(4, 3, (2,), "ring 4 3 2")
        self.assertTrue(read("ring 4 3 2") == Game(4, 3, (2,)))

    def test_edges(self):
        self.check_read(2, 2, (1,), "ring 2 2 1")
        self.check_read(12, 9, (1,), "ring 12 9 1")
        self.check_read(12, 9, (1, 2, 3, 4, 5, 6, 7, 8), "ring 12 9 1 2 3 4 5 6 7 8")
        self.check_read(12, 9, (4, 5, 6, 7, 8, 9, 10, 11), "ring 12 9 4 5 6 7 8 9 10 11")
        self.check_read(12, 4, (1, 10, 11), "ring 12 4 1 10 11")

    def test_no_string(self):
        for value in ANY_VALUES:
            if not isinstance(value, str):
                self.check_text(None, value)
        for value in (["ring", "4", "3", "2"], ("ring 4 3 2",), {"ring 4 3 2": "ring 4 3 2"}, None, True, 4):
            self.check_text(None, value)

    def test_first_word(self):
        for text in (
            "", " ", "  ", "Ring 4 3 2", "RING 4 3 2", "rin 4 3 2", "rings 4 3 2", "4 3 2", "ring4 3 2", "ring\t4 3 2",
            "ring\n4 3 2", " ring 4 3 2", "\nring 4 3 2", "\"ring\" 4 3 2", "x", "r\u0131ng 4 3 2", "ring,4,3,2",
        ):
            self.check_text(0, text)

    def test_words_that_lack(self):
        self.check_text(1, "ring")
        self.check_text(2, "ring 4")
        self.check_text(3, "ring 4 3")

    def test_spaces(self):
        self.check_text(1, "ring ")
        self.check_text(2, "ring 4 ")
        self.check_text(3, "ring 4 3 ")
        self.check_text(4, "ring 4 3 2 ")
        self.check_text(5, "ring 4 4 1 2 ")
        self.check_text(4, "ring 4 2 2 ")
        self.check_text(1, "ring  4 3 2")
        self.check_text(2, "ring 4  3 2")
        self.check_text(3, "ring 4 3  2")
        self.check_text(4, "ring 4 4 1  2")
        self.check_text(3, "ring 4 3  ")
        self.check_text(3, "ring 4 3 2\t3")
        self.check_text(2, "ring 4 3\u00a02")

    def test_words_that_are_no_numbers(self):
        for word in (
            "", "x", "a4", "4a", "04", "004", "+4", "-4", "4.0", "4_", "0x4", "1_1", "four", "4\n", "\t4", "4,", "--4",
            "-", "0", "00", "ring", "None", "True", "[4]", "1e1", "9" * 5000, "0" * 5000, "0" * 5000 + "4", "-" * 5000,
        ) + tuple(FOREIGN):
            self.check_text(1, "ring " + word + " 4 2 3")
            self.check_text(2, "ring 5 " + word + " 2 3")
            self.check_text(3, "ring 5 4 " + word + " 3")
            self.check_text(4, "ring 5 4 1 " + word + " 4")
            self.check_text(1, "ring " + word + " " + word + " " + word)
            self.check_text(1, "ring " + word)
            self.check_text(0, "rang " + word)

    def test_children(self):
        for word in ("0", "1", "13", "20", "100", "-2", "+2", "02", "012", "12.0", "1" + FOREIGN[0]):
            self.check_text(1, "ring " + word + " 2 1")
            self.check_text(1, "ring " + word + " 1 0")
        for children in range(2, 13):
            self.check_read(children, 2, (children - 1,), "ring " + str(children) + " 2 " + str(children - 1))

    def test_parts(self):
        for word in ("0", "1", "10", "12", "22", "-2", "+2", "02", "09"):
            self.check_text(2, "ring 4 " + word + " 1")
            self.check_text(2, "ring 4 " + word + " 9 9 9")
            self.check_text(2, "ring 4 " + word)
        for parts in range(2, 10):
            self.check_read(4, parts, (3,), "ring 4 " + str(parts) + " 3")

    def test_too_great_steps(self):
        for children in range(2, 13):
            for step in (children, children + 1, 100, 0, -1):
                self.check_text(3, "ring " + str(children) + " 9 " + str(step))
                self.check_text(4, "ring " + str(children) + " 9 1 " + str(step))
        self.check_text(5, "ring 12 9 1 11 12")

    def test_steps_that_are_not_ascending(self):
        self.check_text(4, "ring 5 4 2 2")
        self.check_text(4, "ring 5 4 2 1 3")
        self.check_text(5, "ring 5 4 1 3 3")
        self.check_text(5, "ring 5 4 1 3 2")
        self.check_text(5, "ring 12 9 1 10 2 3")
        self.check_text(4, "ring 12 9 11 10 9")

    def test_too_many_steps(self):
        for parts in range(2, 10):
            words = ["ring", "12", str(parts)] + [str(step) for step in range(1, parts)]
            self.check_read(12, parts, tuple(range(1, parts)), " ".join(words))
            for word in (str(parts), "11", "0", "x", ""):
                self.check_text(parts + 2, " ".join(words + [word]))
                self.check_text(parts + 2, " ".join(words + [word, "11", "x"]))
        # The first word that cannot stand there counts, whatever the later ones are.
        self.check_text(3, "ring 5 2 5 1")
        self.check_text(4, "ring 5 3 2 1 4")
        self.check_text(4, "ring 2 2 1 1")

    def test_long_texts(self):
        self.check_text(4, "ring 2 2 1" + " 1" * 10000)
        self.check_text(0, "ring" * 10000)
        self.check_text(1, "ring" + " " * 10000)


class InterfaceTest(SweetCase):
    """The interface: sweetsring/texts.py."""

    def test_defined_in_its_file(self):
        self.assertEqual({texts.__name__}, {read.__module__, write.__module__})

    def test_names_of_arguments(self):
        self.assertEqual("ring 4 3 2", write(game=read(text="ring 4 3 2")))
