"""What the tests share: calls and answers written as numbers, and the document's words done one by one.

The plain functions below follow the words as they stand, with sets and no care for time, so that what the
program answers can be held against them. They use nothing of the package.
"""

from itertools import combinations

from strikesquare.square import answers

NONE = 255


def bits(numbers):
    return sum(1 << v for v in numbers)


def read(n, regions=None, right=None, down=None, given=None):
    """The numbers of a read; what isn't told is none, or nothing where n isn't 2 to 9."""
    size = n * n if 2 <= n <= 9 else 0
    rows = [regions if regions is not None else [NONE] * size]
    rows += [row if row is not None else [0] * size for row in (right, down, given)]
    call = [0, n]
    for row in rows:
        call += [len(row)] + list(row)
    return call


def step(hardest):
    return [1, hardest]


def cell(k):
    return [2, k]


def solve(hardest):
    return [3, hardest]


def run(*calls):
    """The answers to these calls, one list each."""
    line = [number for call in calls for number in call]
    found = answers(line)
    split = []
    at = 0
    while at < len(found):
        split.append(found[at + 1:at + 1 + found[at]])
        at += 1 + found[at]
    return split


def told_step(kind, place, other, numbers, struck):
    """A step's answer; struck tells of some cells which numbers are struck."""
    return [1, kind, place, other, bits(numbers)] + [bits(struck.get(k, ())) for k in range(81)]


def boxes(n, height, width):
    across = n // width
    return [r // height * across + c // width for r in range(n) for c in range(n)]


def marked(n, **at):
    """A row of n n numbers, 0 but where told: marked(4, c3=2) has a 2 in cell 3."""
    row = [0] * (n * n)
    for name, value in at.items():
        row[int(name[1:])] = value
    return row


def text_given(text):
    return [0 if sign in ".0" else int(sign) for sign in text if sign not in " \n"]


class Plain:
    """A frame and what is in its cells, as sets."""

    def __init__(self, n, regions=None, right=None, down=None, given=None):
        size = n * n
        self.n = n
        regions = regions or [NONE] * size
        self.right = right or [0] * size
        self.down = down or [0] * size
        self.given = given or [0] * size
        self.units = [[n * r + c for c in range(n)] for r in range(n)]
        self.units += [[n * r + c for r in range(n)] for c in range(n)]
        if regions[0] != NONE:
            self.units += [[k for k in range(size) if regions[k] == a] for a in range(n)]
        self.cells = [{v} if v else set(range(1, n + 1)) for v in self.given]

    def twin(self):
        other = Plain(self.n)
        other.right, other.down, other.given, other.units = self.right, self.down, self.given, self.units
        other.cells = [set(numbers) for numbers in self.cells]
        return other

    def pairs_of_signs(self):
        """Of each sign: its cell, 0 or 1, the cell of the less number, that of the greater."""
        for k in range(self.n * self.n):
            for other, sign, beside in ((0, self.right[k], k + 1), (1, self.down[k], k + self.n)):
                if sign == 1:
                    yield k, other, k, beside
                elif sign == 2:
                    yield k, other, beside, k

    def broken(self):
        if any(not numbers for numbers in self.cells):
            return True
        return any(all(v not in self.cells[k] for k in unit)
                   for unit in self.units for v in range(1, self.n + 1))

    def make(self, a_step):
        for k, numbers in a_step[4].items():
            self.cells[k] -= numbers


def struck(square, wanted):
    """Of what a step would strike that which is there."""
    hit = {k: square.cells[k] & set(numbers) for k, numbers in wanted}
    return {k: numbers for k, numbers in hit.items() if numbers}


def plain_settled(square):
    for k, numbers in enumerate(square.cells):
        if len(numbers) == 1:
            yield 1, k, 0, set(numbers), struck(
                square, [(j, numbers) for unit in square.units if k in unit for j in unit if j != k])


def plain_only_place(square):
    for u, unit in enumerate(square.units):
        for v in range(1, square.n + 1):
            there = [k for k in unit if v in square.cells[k]]
            if len(there) == 1:
                yield 2, u, 0, {v}, struck(square, [(there[0], square.cells[there[0]] - {v})])


def plain_sign(square):
    for k, other, a, b in square.pairs_of_signs():
        less, more = square.cells[a], square.cells[b]
        if less and more:
            yield 3, k, other, set(), struck(square, [
                (b, [x for x in more if x <= min(less)]), (a, [x for x in less if x >= max(more)])])


def plain_locked(square):
    for u, unit in enumerate(square.units):
        for w, other in enumerate(square.units):
            for v in range(1, square.n + 1):
                there = [k for k in unit if v in square.cells[k]]
                if u != w and there and all(k in other for k in there):
                    yield 4, u, w, {v}, struck(square, [(k, {v}) for k in other if k not in there])


def plain_few_for_few(square):
    for m in (2, 3):
        sets = sorted(combinations(range(1, square.n + 1), m), key=bits)
        for u, unit in enumerate(square.units):
            for few in sets:
                there = [k for k in unit if square.cells[k] and square.cells[k] <= set(few)]
                if len(there) == m:
                    yield 5, u, m, set(few), struck(square, [(k, few) for k in unit if k not in there])


def plain_trial(square):
    for k, numbers in enumerate(square.cells):
        if len(numbers) >= 2:
            for v in sorted(numbers):
                tried = square.twin()
                tried.cells[k] = {v}
                plain_solve(tried, 4)
                if tried.broken():
                    yield 6, k, 0, {v}, {k: {v}}


PLAIN_KINDS = (plain_settled, plain_only_place, plain_sign, plain_locked, plain_few_for_few, plain_trial)


def plain_steps(square, hardest):
    """All steps that there are up to a kind, the first one first."""
    for kind in PLAIN_KINDS[:hardest]:
        for found in kind(square):
            if found[4]:
                yield found


def plain_step(square, hardest):
    """What step answers."""
    if square.broken():
        return [-33]
    for found in plain_steps(square, hardest):
        square.make(found)
        return told_step(*found)
    return [0]


def plain_solve(square, hardest):
    """What solve answers."""
    made = [0]
    while True:
        answer = plain_step(square, hardest)
        if answer[0] != 1:
            break
        made.append(answer[1])
    if square.broken():
        end = 2
    else:
        end = 1 if all(len(numbers) == 1 for numbers in square.cells) else 0
    return [len(made) - 1, max(made), end]


def may_follow(square, begun, v, peers, signs):
    """Whether v may stand in the next cell, behind those that have their numbers."""
    k = len(begun)
    if square.given[k] not in (0, v) or any(begun[j] == v for j in peers[k]):
        return False
    stands = begun + [v]
    return all(stands[a] < stands[b] for a, b in signs[k])


def fillings(square):
    """All fillings of a small frame, in their order, found by trying every number in every cell."""
    size = square.n * square.n
    peers = [{j for unit in square.units if k in unit for j in unit if j < k} for k in range(size)]
    signs = [[(a, b) for _, _, a, b in square.pairs_of_signs() if max(a, b) == k] for k in range(size)]
    found = [[]]
    for _ in range(size):
        found = [begun + [v] for begun in found for v in range(1, square.n + 1)
                 if may_follow(square, begun, v, peers, signs)]
    return found


def some_regions(chance, n, filling):
    """None, rows, the boxes of a square of four, or regions strewn so that the filling may stand."""
    drawn = chance.randrange(4)
    if drawn == 0:
        return None
    if drawn == 1:
        return [k // n for k in range(n * n)]
    if drawn == 2 and n == 4:
        return boxes(4, 2, 2)
    regions = [0] * (n * n)
    for v in range(1, n + 1):
        cells = [k for k in range(n * n) if filling[k] == v]
        for region, k in zip(chance.sample(range(n), n), cells):
            regions[k] = region
    return regions


def some_frame(chance, n, wrong):
    """A frame drawn around a square in which no row or column has a number twice; a part `wrong` is against it."""
    rows, columns, numbers = [chance.sample(range(n), n) for _ in range(3)]
    filling = [numbers[(rows[k // n] + columns[k % n]) % n] + 1 for k in range(n * n)]
    many_signs, many_given = chance.choice((0, 0.15, 0.4)), chance.choice((0, 0.1, 0.25, 0.4))
    right, down, given = [0] * (n * n), [0] * (n * n), [0] * (n * n)
    for k, v in enumerate(filling):
        for row, beside, fit in ((right, k + 1, k % n < n - 1), (down, k + n, k // n < n - 1)):
            if fit and chance.random() < many_signs:
                row[k] = 1 if (v < filling[beside]) != (chance.random() < wrong) else 2
        if chance.random() < many_given:
            given[k] = chance.randint(1, n) if chance.random() < wrong else v
    return n, some_regions(chance, n, filling), right, down, given
