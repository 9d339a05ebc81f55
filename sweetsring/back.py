"""Back: the rows that a round turns into told sweets."""

from sweetsring.errors import TooMany
from sweetsring.rounds import check_sweets

MOST_CHILDREN = 5
MOST_NUMBER = 20


def check_few(game, sweets):
    """Raise BadSweets unless the value is sweets of the game, TooMany if they are too many or too great."""
    check_sweets(game, sweets)
    if game.children > MOST_CHILDREN or max(sweets) > MOST_NUMBER:
        raise TooMany()


def receivers(game, child):
    """The children to whom the child gives."""
    return [(child + step) % game.children for step in game.steps]


def kept_parts(game):
    """How many of its parts a child keeps."""
    return game.parts - len(game.steps)


def greatest_part(game, needed, child):
    """The greatest part of the child with which nobody gets more than it still needs."""
    limits = [needed[other] for other in receivers(game, child)]
    return min([needed[child] // kept_parts(game)] + limits)


def take_part(game, needed, child, size):
    """What each child still needs when the parts of this child are of such a size."""
    rest = list(needed)
    rest[child] = rest[child] - kept_parts(game) * size
    for other in receivers(game, child):
        rest[other] = rest[other] - size
    return rest


def settled(game, child):
    """The children that get nothing more, once the parts of all children up to this one are made."""
    found = []
    for other in range(child + 1):
        givers = [(other - step) % game.children for step in game.steps]
        if max(givers) <= child:
            found.append(other)
    return found


def go_on(game, found, child):
    """The tuples of sizes that were found for the children ahead of this one, with each size that fits for this one."""
    done = settled(game, child)
    longer = []
    for sizes, needed in found:
        for size in range(greatest_part(game, needed, child) + 1):
            rest = take_part(game, needed, child, size)
            if all([rest[other] == 0 for other in done]):
                longer.append((sizes + (size,), rest))
    return longer


def sizes_ahead(game, sweets):
    """The ascending list of the tuples of the sizes of the children's parts that make these sweets."""
    found = [((), sweets)]
    for child in range(game.children):
        found = go_on(game, found, child)
    return [sizes for sizes, _ in found]


def count_rows(game, sizes):
    """How many rows have parts of these sizes, when they are filled up."""
    many = 1
    for size in sizes:
        # Only 0 is filled up to 0; to any other multiple, as many numbers are as there are parts.
        if size > 0:
            many = many * game.parts
    return many


def least_number(game, size):
    """The least number that has parts of this size, when it is filled up."""
    if size == 0:
        return 0
    return game.parts * (size - 1) + 1


def count_ahead(game, sweets):
    """The number of the rows that a round turns into these sweets."""
    check_few(game, sweets)
    return sum([count_rows(game, sizes) for sizes in sizes_ahead(game, sweets)])


def least_ahead(game, sweets):
    """The least row that a round turns into these sweets, None if there is none."""
    check_few(game, sweets)
    found = sizes_ahead(game, sweets)
    if not found:
        return None
    # A greater part comes of greater numbers only, so the least sizes come of the least row.
    return tuple([least_number(game, size) for size in found[0]])
