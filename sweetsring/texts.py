"""Texts: games in words."""

from sweetsring.errors import BadText
from sweetsring.games import LEAST_CHILDREN, LEAST_PARTS, MOST_CHILDREN, MOST_PARTS, Game

FIRST_WORD = "ring"
FIRST_STEP = 3


def write(game):
    """The text of the game."""
    numbers = (game.children, game.parts) + game.steps
    return " ".join([FIRST_WORD] + [str(number) for number in numbers])


def read_number(words, index, least, most):
    """The number from least to most that the word at the index tells; BadText if it lacks or tells none."""
    if index < len(words):
        for number in range(least, most + 1):
            # Compared as it is written, since int would also take signs, zeros in front and foreign figures.
            if words[index] == str(number):
                return number
    raise BadText(index)


def read_steps(words, children, parts):
    """The tuple of the steps that stand in the words behind the parts."""
    steps = []
    least = 1
    # One step at least is asked for, also if no word is left.
    for index in range(FIRST_STEP, max(len(words), FIRST_STEP + 1)):
        if len(steps) == parts - 1:
            raise BadText(index)
        step = read_number(words, index, least, children - 1)
        steps.append(step)
        least = step + 1
    return tuple(steps)


def read(text):
    """The game that the text tells."""
    if not isinstance(text, str):
        raise BadText(None)
    words = text.split(" ")
    if words[0] != FIRST_WORD:
        raise BadText(0)
    children = read_number(words, 1, LEAST_CHILDREN, MOST_CHILDREN)
    parts = read_number(words, 2, LEAST_PARTS, MOST_PARTS)
    return Game(children, parts, read_steps(words, children, parts))
