"""The calls on a square, and how they are handed in and answered as one list of whole numbers."""

from strikesquare.bits import is_single
from strikesquare.board import board_at_first, is_broken
from strikesquare.frame import Frame, WRONG_NUMBER, refusal
from strikesquare.steps import FINDERS, told

NO_CELL = -2
BROKEN = -33

READ = 0
STEP = 1
CELL = 2

END_OPEN = 0
END_FILLED = 1
END_BROKEN = 2


class Square:
    """The object of the calls; it has no frame till a read is answered 0."""

    def __init__(self):
        self.frame = None
        self.board = None
        self.trials = {}
        # Up to this kind it's known that there is no step; so it isn't looked for again.
        self.quiet = 0

    def read(self, n, regions, right, down, given):
        refused = refusal(n, regions, right, down, given)
        if refused != 0:
            return [refused]
        self.frame = Frame(n, regions, right, down, given)
        self.board = board_at_first(self.frame)
        self.trials = {}
        self.quiet = 0
        return [0]

    def step(self, hardest):
        if not is_kind(hardest):
            return [WRONG_NUMBER]
        if is_broken(self.frame, self.board):
            return [BROKEN]
        step = self.first_step(hardest)
        if step is None:
            return [0]
        self.make(step)
        return [1] + told(step)

    def cell(self, k):
        if k >= len(self.board.cells):
            return [NO_CELL]
        return [self.board.cells[k]]

    def solve(self, hardest):
        if not is_kind(hardest):
            return [WRONG_NUMBER]
        made = 0
        greatest_kind = 0
        while not is_broken(self.frame, self.board):
            step = self.first_step(hardest)
            if step is None:
                break
            self.make(step)
            made += 1
            greatest_kind = max(greatest_kind, step.kind)
        return [made, greatest_kind, self.end()]

    def first_step(self, hardest):
        """The first step up to that kind, or None."""
        for kind in range(self.quiet + 1, hardest + 1):
            find = FINDERS[kind - 1]
            step = find(self)
            if step is not None:
                return step
            self.quiet = kind
        return None

    def make(self, step):
        for k, numbers in step.strikes:
            self.board.strike(k, numbers)
        self.quiet = 0

    def end(self):
        if is_broken(self.frame, self.board):
            return END_BROKEN
        if all([is_single(numbers) for numbers in self.board.cells]):
            return END_FILLED
        return END_OPEN


def is_kind(hardest):
    return 1 <= hardest <= len(FINDERS)


class Calls:
    """The calls' numbers, taken one behind another."""

    def __init__(self, numbers):
        self.numbers = numbers
        self.at = 0

    def has_more(self):
        return self.at < len(self.numbers)

    def take(self):
        number = self.numbers[self.at]
        self.at += 1
        return number

    def take_row(self):
        """A row, which has its length before it."""
        length = self.take()
        row = self.numbers[self.at:self.at + length]
        self.at += length
        return row


def answer_of_next(square, calls):
    call = calls.take()
    if call == READ:
        n = calls.take()
        regions = calls.take_row()
        right = calls.take_row()
        down = calls.take_row()
        given = calls.take_row()
        return square.read(n, regions, right, down, given)
    number = calls.take()
    if call == STEP:
        return square.step(number)
    if call == CELL:
        return square.cell(number)
    return square.solve(number)


def answers(calls):
    """For each call on a new square how many numbers are answered, then these."""
    square = Square()
    rest = Calls(calls)
    found = []
    while rest.has_more():
        answer = answer_of_next(square, rest)
        found.append(len(answer))
        found.extend(answer)
    return found
