"""The kinds of step, and of each the first that there is on a square that isn't broken."""

from strikesquare.bits import is_single, least, members
from strikesquare.board import strikes_by_sign, strikes_of
from strikesquare.trial import Trial

SETTLED = 1
ONLY_PLACE = 2
SIGN = 3
LOCKED = 4
FEW_FOR_FEW = 5
TRIAL = 6

CELLS_TOLD = 81


class Step:
    """A step, with what it strikes: pairs of a cell and the numbers struck there."""

    def __init__(self, kind, place, other, numbers, strikes):
        self.kind = kind
        self.place = place
        self.other = other
        self.numbers = numbers
        self.strikes = strikes


def told(step):
    """The 85 numbers of a step."""
    struck = [0] * CELLS_TOLD
    for k, numbers in step.strikes:
        struck[k] = numbers
    return [step.kind, step.place, step.other, step.numbers] + struck


def first_settled(square):
    board = square.board
    for k, numbers in enumerate(board.cells):
        if is_single(numbers):
            there = board.places[least(numbers)] & square.frame.peers[k]
            if there:
                return Step(SETTLED, k, 0, numbers, strikes_of(board, members(there), numbers))
    return None


def first_only_place(square):
    board = square.board
    for u, unit in enumerate(square.frame.units):
        for v in range(1, square.frame.n + 1):
            there = board.places[v] & unit
            if is_single(there):
                strikes = strikes_of(board, members(there), ~(1 << v))
                if strikes:
                    return Step(ONLY_PLACE, u, 0, 1 << v, strikes)
    return None


def first_sign(square):
    for sign in square.frame.signs:
        strikes = strikes_by_sign(square.board, sign)
        if strikes:
            return Step(SIGN, sign[0], sign[1], 0, strikes)
    return None


def first_locked(square):
    units = square.frame.units
    for u, unit in enumerate(units):
        for w, other_unit in enumerate(units):
            # Units without a common cell, and the unit itself, lock nothing.
            if u != w and unit & other_unit:
                step = first_locked_between(square, u, w)
                if step is not None:
                    return step
    return None


def first_locked_between(square, u, w):
    board = square.board
    units = square.frame.units
    for v in range(1, square.frame.n + 1):
        there = board.places[v] & units[u]
        if there and there & ~units[w] == 0:
            others = board.places[v] & units[w] & ~there
            if others:
                return Step(LOCKED, u, w, 1 << v, strikes_of(board, members(others), 1 << v))
    return None


def first_few_for_few(square):
    frame = square.frame
    for m, sets in ((2, frame.pairs), (3, frame.triples)):
        for u in range(len(frame.units)):
            step = first_few_in_unit(square, u, m, sets)
            if step is not None:
                return step
    return None


def first_few_in_unit(square, u, m, sets):
    board = square.board
    cells = square.frame.cells_of(u)
    for numbers in sets:
        few = [k for k in cells if board.cells[k] and board.cells[k] & ~numbers == 0]
        if len(few) == m:
            strikes = strikes_of(board, [k for k in cells if k not in few], numbers)
            if strikes:
                return Step(FEW_FOR_FEW, u, m, numbers, strikes)
    return None


def first_trial(square):
    for k, numbers in enumerate(square.board.cells):
        if not is_single(numbers):
            for v in members(numbers):
                if trial_of(square, k, v).ends_broken():
                    return Step(TRIAL, k, 0, 1 << v, [(k, 1 << v)])
    return None


def trial_of(square, k, v):
    """The trial that is kept of this cell and number, brought up to now, or a new one."""
    trial = square.trials.get((k, v))
    if trial is None:
        trial = Trial(square.frame, square.board, k, v)
        square.trials[(k, v)] = trial
    else:
        trial.follow(square.board)
    return trial


# The finder of each kind, the easiest first.
FINDERS = (first_settled, first_only_place, first_sign, first_locked, first_few_for_few, first_trial)
