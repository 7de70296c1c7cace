"""What comes of a cell if one number alone were there.

The steps of kinds 1 to 4 only strike, and what one of them strikes, it or another would still strike
(or the square would be broken) after any other steps. So whether a trial ends in a broken square doesn't
hang on the order of its steps: here each is looked for only near what was struck last. For the same reason
a trial that did not break is kept and goes on from its end when more has been struck in the square.
"""

from strikesquare.bits import is_single, least, members
from strikesquare.board import strikes_by_sign, strikes_of


class Trial:
    """Number v alone in cell k, on a board on which there's no step of kinds 1 to 4."""

    def __init__(self, frame, board, k, v):
        self.frame = frame
        self.board = board.twin()
        self.news = []
        self.strike_here(k, ~(1 << v))

    def strike_here(self, k, numbers):
        hit = self.board.strike(k, numbers)
        if hit:
            self.news.append((k, hit))

    def strike_all(self, strikes):
        for k, numbers in strikes:
            self.strike_here(k, numbers)

    def follow(self, board):
        """Strike here what is no longer on the square's own board."""
        for k, numbers in enumerate(board.cells):
            self.strike_here(k, ~numbers)

    def ends_broken(self):
        """Make all steps of kinds 1 to 4 that there are, or enough of them to see it broken."""
        while self.news:
            struck = self.news.pop()
            k = struck[0]
            if self.board.cells[k] == 0:
                return True
            self.look_at_cell(k)
            for v in members(struck[1]):
                for u in self.frame.units_of[k]:
                    if self.board.places[v] & self.frame.units[u] == 0:
                        return True
                    self.look_at_unit(u, v)
        return False

    def look_at_cell(self, k):
        """Settled and sign."""
        numbers = self.board.cells[k]
        if is_single(numbers):
            there = self.board.places[least(numbers)] & self.frame.peers[k]
            self.strike_all(strikes_of(self.board, members(there), numbers))
        for sign in self.frame.signs_at[k]:
            self.strike_all(strikes_by_sign(self.board, sign))

    def look_at_unit(self, u, v):
        """Only place and locked."""
        there = self.board.places[v] & self.frame.units[u]
        k = least(there)
        if is_single(there):
            self.strike_here(k, ~(1 << v))
            return
        for w in self.frame.units_of[k]:
            unit = self.frame.units[w]
            if there & ~unit == 0:
                others = self.board.places[v] & unit & ~there
                self.strike_all(strikes_of(self.board, members(others), 1 << v))
