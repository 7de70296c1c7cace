"""What is in the cells of a square."""

from strikesquare.bits import greatest, least, members


class Board:
    """Of each cell its numbers and of each number its cells: the same told twice, so that both are at hand."""

    def __init__(self, cells, places):
        self.cells = cells
        self.places = places

    def twin(self):
        """The same board once more, to be struck on its own."""
        return Board(list(self.cells), list(self.places))

    def strike(self, k, numbers):
        """Strike the numbers in cell k; answers those of them that were there."""
        hit = self.cells[k] & numbers
        if hit:
            self.cells[k] ^= hit
            for v in members(hit):
                self.places[v] ^= 1 << k
        return hit


def board_at_first(frame):
    anything = (1 << (frame.n + 1)) - 2
    cells = [1 << v if v else anything for v in frame.given]
    places = [0] * (frame.n + 1)
    for k, numbers in enumerate(cells):
        for v in members(numbers):
            places[v] |= 1 << k
    return Board(cells, places)


def is_broken(frame, board):
    if 0 in board.cells:
        return True
    for unit in frame.units:
        for v in range(1, frame.n + 1):
            if board.places[v] & unit == 0:
                return True
    return False


def strikes_of(board, cells, numbers):
    """Of those cells in which some of the numbers are: the cell, and which of them."""
    return [(k, board.cells[k] & numbers) for k in cells if board.cells[k] & numbers]


def strikes_by_sign(board, sign):
    """What a sign strikes, both sides judged by what was there before."""
    less = board.cells[sign[2]]
    more = board.cells[sign[3]]
    if less == 0 or more == 0:
        return []
    up_to_least = (2 << least(less)) - 1
    below_greatest = (1 << greatest(more)) - 1
    return strikes_of(board, [sign[2]], less & ~below_greatest) + strikes_of(board, [sign[3]], up_to_least)
