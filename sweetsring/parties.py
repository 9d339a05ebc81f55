"""Parties: sweets that are played on with, step by step, and back."""

from sweetsring.checks import is_between, is_whole
from sweetsring.ends import find_end
from sweetsring.errors import BadChild, BadGift
from sweetsring.rounds import MOST_SWEETS, check_sweets, count_lacking, play_round


class Party:
    """A game with the sweets that stand, and the steps that led to them."""

    def __init__(self, game, sweets):
        check_sweets(game, sweets)
        self._game = game
        self._first = sweets
        self._sweets = sweets
        self._spent = 0
        # What stood ahead of each step that stands, and behind each one that was taken back.
        self._ahead = []
        self._behind = []

    @property
    def game(self):
        """The game of the party."""
        return self._game

    @property
    def sweets(self):
        """The numbers that stand."""
        return self._sweets

    @property
    def spent(self):
        """How many sweets were filled up in all rounds that stand."""
        return self._spent

    def __len__(self):
        return len(self._ahead)

    def _step(self, numbers, spent):
        """Do a step that leaves these numbers, with so many sweets filled up in it."""
        self._ahead.append((self._sweets, self._spent))
        self._behind = []
        self._sweets = numbers
        self._spent = self._spent + spent

    def play(self):
        """Do a round, and return how many sweets are filled up in it."""
        spent = count_lacking(self._game, self._sweets)
        self._step(play_round(self._game, self._sweets), spent)
        return spent

    def give(self, child, many):
        """Give so many sweets to the child, or take them if below 0, and return how many it has then."""
        if not is_between(child, 0, self._game.children - 1):
            raise BadChild()
        if not is_whole(many) or not 0 <= self._sweets[child] + many <= MOST_SWEETS:
            raise BadGift()
        numbers = list(self._sweets)
        numbers[child] = numbers[child] + many
        self._step(tuple(numbers), 0)
        return numbers[child]

    def finish(self):
        """Do rounds until nothing changes, and return how many."""
        # A round may leave numbers a little above those that may be passed, so they are not judged again.
        numbers, many, spent = find_end(self._game, self._sweets)
        self._step(numbers, spent)
        return many

    def undo(self):
        """Take the last step that stands back, and return whether there was one."""
        if not self._ahead:
            return False
        self._behind.append((self._sweets, self._spent))
        self._sweets, self._spent = self._ahead.pop()
        return True

    def redo(self):
        """Do the last step that was taken back again, and return whether there was one."""
        if not self._behind:
            return False
        self._ahead.append((self._sweets, self._spent))
        self._sweets, self._spent = self._behind.pop()
        return True

    def copy(self):
        """An independent party that stands as this one, with its steps and those that were taken back."""
        # Created with the first sweets: those that stand may be a little above what may be passed.
        twin = Party(self._game, self._first)
        twin._sweets = self._sweets
        twin._spent = self._spent
        twin._ahead = list(self._ahead)
        twin._behind = list(self._behind)
        return twin
