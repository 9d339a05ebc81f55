"""Games: how many children, how many parts, and who gives to whom."""

from math import gcd

from sweetsring.checks import is_between
from sweetsring.errors import BadChildren, BadParts, BadSteps

LEAST_CHILDREN = 2
MOST_CHILDREN = 12
LEAST_PARTS = 2
MOST_PARTS = 9


def check_steps(children, parts, steps):
    """Raise BadSteps unless the steps fit a game of so many children and parts."""
    if not isinstance(steps, tuple) or not 1 <= len(steps) < parts:
        raise BadSteps(None)
    least = 1
    for index, step in enumerate(steps):
        if not is_between(step, least, children - 1):
            raise BadSteps(index)
        least = step + 1


class Game:
    """A ring of children, the parts that each one makes, and the steps of its gifts."""

    def __init__(self, children, parts, steps):
        if not is_between(children, LEAST_CHILDREN, MOST_CHILDREN):
            raise BadChildren()
        if not is_between(parts, LEAST_PARTS, MOST_PARTS):
            raise BadParts()
        check_steps(children, parts, steps)
        self._children = children
        self._parts = parts
        self._steps = steps

    @property
    def children(self):
        """The number of children."""
        return self._children

    @property
    def parts(self):
        """How many parts each child makes of its sweets."""
        return self._parts

    @property
    def steps(self):
        """The ascending tuple of the steps from a child to those it gives to."""
        return self._steps

    def __eq__(self, other):
        return (isinstance(other, Game) and self._children == other._children
                and self._parts == other._parts and self._steps == other._steps)


def rings(game):
    """The ascending tuples of children that hang together, by their least ones."""
    apart = game.children
    for step in game.steps:
        apart = gcd(apart, step)
    # Gifts come back round the ring, so they lead to every child that leaves the same rest by this divisor.
    return [tuple(range(least, game.children, apart)) for least in range(apart)]
