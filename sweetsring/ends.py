"""The end: the numbers that change no more, and how they come about."""

from sweetsring.games import rings
from sweetsring.rounds import check_sweets, count_lacking, fill_up, play_round


def rows_to_end(game, numbers):
    """The numbers at first, behind the first round and so on, up to those that change no more, of any size."""
    rows = [numbers]
    following = play_round(game, numbers)
    # This ends: the least number of a ring that is not alike rises, or fewer have it, and the greatest never rises.
    while following != rows[-1]:
        rows.append(following)
        following = play_round(game, following)
    return rows


def find_end(game, numbers):
    """What end returns, of numbers of any size."""
    rows = rows_to_end(game, numbers)
    spent = sum([count_lacking(game, row) for row in rows[:-1]])
    return (rows[-1], len(rows) - 1, spent)


def end(game, sweets):
    """The tuple of the numbers that change no more, of the rounds until then, and of the sweets filled up."""
    check_sweets(game, sweets)
    return find_end(game, sweets)


def ring_level(ring, numbers):
    """The least number in the ring, how many of its children have it, and the greatest number."""
    own = [numbers[child] for child in ring]
    least = min(own)
    return (least, own.count(least), max(own))


def levels(game, sweets):
    """The levels of each ring, at first and behind each round, up to the numbers that change no more."""
    check_sweets(game, sweets)
    together = rings(game)
    found = []
    for row in rows_to_end(game, sweets):
        full = fill_up(game, row)
        found.append([ring_level(ring, full) for ring in together])
    return found
