"""Rounds: all are filled up, then all give at the same time."""

from sweetsring.checks import is_between, is_whole
from sweetsring.errors import BadRounds, BadRows, BadSweets

MOST_SWEETS = 10 ** 30
MOST_ROUNDS = 2000
MOST_ROWS = 200


def check_sweets(game, sweets):
    """Raise BadSweets unless the value is sweets of the game."""
    if not isinstance(sweets, tuple) or len(sweets) != game.children:
        raise BadSweets(None)
    for index, number in enumerate(sweets):
        if not is_between(number, 0, MOST_SWEETS):
            raise BadSweets(index)


def fill_up(game, numbers):
    """The numbers filled up, of numbers of any size."""
    # The rest of a number below 0 is not below 0 in Python: just what lacks to the next multiple.
    return tuple([number + -number % game.parts for number in numbers])


def count_lacking(game, numbers):
    """How many sweets fill up the numbers, of any size."""
    return sum(fill_up(game, numbers)) - sum(numbers)


def play_round(game, numbers):
    """The numbers behind one round, of numbers of any size."""
    shares = [number // game.parts for number in fill_up(game, numbers)]
    kept = game.parts - len(game.steps)
    found = []
    for child, share in enumerate(shares):
        gifts = [shares[(child - step) % game.children] for step in game.steps]
        found.append(kept * share + sum(gifts))
    return tuple(found)


def filled(game, sweets):
    """The sweets filled up: for each child the least multiple of parts that is no less."""
    check_sweets(game, sweets)
    return fill_up(game, sweets)


def lacking(game, sweets):
    """How many sweets are needed to fill up these."""
    check_sweets(game, sweets)
    return count_lacking(game, sweets)


def after(game, sweets, rounds=1):
    """The numbers behind so many rounds."""
    check_sweets(game, sweets)
    if not is_between(rounds, 0, MOST_ROUNDS):
        raise BadRounds()
    numbers = sweets
    for _ in range(rounds):
        numbers = play_round(game, numbers)
    return numbers


def is_still(game, sweets):
    """Whether a round changes nothing."""
    check_sweets(game, sweets)
    return play_round(game, sweets) == sweets


def is_row(game, value):
    """Whether the value is a tuple of one integer from 0 on for each child."""
    if not isinstance(value, tuple) or len(value) != game.children:
        return False
    return all([is_whole(number) and number >= 0 for number in value])


def check_rows(game, rows):
    """Raise BadRows unless the value is a list or tuple of rows of the game."""
    if not isinstance(rows, (list, tuple)) or not 1 <= len(rows) <= MOST_ROWS:
        raise BadRows(None)
    for index, row in enumerate(rows):
        if not is_row(game, row):
            raise BadRows(index)


def first_wrong(game, rows):
    """The index of the first row that no round makes of the one ahead, None if there is none."""
    check_rows(game, rows)
    for index in range(1, len(rows)):
        if rows[index] != play_round(game, rows[index - 1]):
            return index
    return None
