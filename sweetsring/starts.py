"""All starts: those of few children with few sweets, by their ends, their rounds, and what was seen."""

from sweetsring.checks import is_between, is_whole
from sweetsring.ends import rows_to_end
from sweetsring.errors import BadMost, BadSeen, TooMany

MOST_CHILDREN = 3
GREATEST_MOST = 9
LAST_ROUND = 50


def check_most(game, most):
    """Raise TooMany if the game has too many children, BadMost unless most is one of a start."""
    if game.children > MOST_CHILDREN:
        raise TooMany()
    if not is_between(most, 0, GREATEST_MOST):
        raise BadMost()


def is_seen(game, value):
    """Whether the value is a tuple of a round, a child of the game and a number."""
    if not isinstance(value, tuple) or len(value) != 3:
        return False
    behind, child, number = value
    return (is_between(behind, 0, LAST_ROUND) and is_between(child, 0, game.children - 1)
            and is_whole(number) and number >= 0)


def check_seen(game, seen):
    """Raise BadSeen unless the value is a list or tuple of what can be seen in the game."""
    if not isinstance(seen, (list, tuple)):
        raise BadSeen(None)
    for index, value in enumerate(seen):
        if not is_seen(game, value):
            raise BadSeen(index)


def all_starts(game, most):
    """The ascending list of all starts."""
    found = [()]
    for _ in range(game.children):
        found = [start + (number,) for start in found for number in range(most + 1)]
    return found


def tally(things):
    """The ascending list of the tuples (thing, how often it is among the things)."""
    times = {}
    for thing in things:
        times[thing] = times.get(thing, 0) + 1
    return sorted(times.items())


def count_rounds(game, start):
    """How many rounds the start takes until nothing changes."""
    return len(rows_to_end(game, start)) - 1


def agrees(rows, seen):
    """Whether the rows of a start up to its end agree with all that was seen."""
    for behind, child, number in seen:
        # Behind the last row nothing changes any more, so it stands for all later ones.
        row = rows[min(behind, len(rows) - 1)]
        if row[child] != number:
            return False
    return True


def ends_of(game, most):
    """The ascending list of the tuples (the numbers that change no more, how many starts lead to them)."""
    check_most(game, most)
    return tally([rows_to_end(game, start)[-1] for start in all_starts(game, most)])


def rounds_of(game, most):
    """The ascending list of the tuples (rounds, how many starts take so many until nothing changes)."""
    check_most(game, most)
    return tally([count_rounds(game, start) for start in all_starts(game, most)])


def longest(game, most):
    """The tuple of the most rounds that a start takes, and of the least start that does."""
    check_most(game, most)
    starts = all_starts(game, most)
    many = [count_rounds(game, start) for start in starts]
    greatest = max(many)
    # The starts ascend, and index tells the first one: the least.
    return (greatest, starts[many.index(greatest)])


def fitting(game, most, seen):
    """The ascending list of all starts that agree with what was seen."""
    check_most(game, most)
    check_seen(game, seen)
    return [start for start in all_starts(game, most) if agrees(rows_to_end(game, start), seen)]
