"""What is told of a square before any step: its units, its signs, the numbers given."""

from strikesquare.bits import members, sets_of

NO_REGION = 255
LESS = 1
RIGHT = 0
DOWN = 1

WRONG_NUMBER = -22
WRONG_REGIONS = -71
WRONG_SIGN = -72
WRONG_GIVEN = -73


def refusal(n, regions, right, down, given):
    """The number of the first refusal that is due, or 0."""
    if n < 2 or n > 9:
        return WRONG_NUMBER
    if not regions_fit(n, regions):
        return WRONG_REGIONS
    if not signs_fit(n, right, down):
        return WRONG_SIGN
    if max(given) > n:
        return WRONG_GIVEN
    return 0


def regions_fit(n, regions):
    if regions.count(NO_REGION) == n * n:
        return True
    # n regions of n cells leave no cell over, so no other number can stand anywhere.
    return all([regions.count(region) == n for region in range(n)])


def signs_fit(n, right, down):
    for k in range(n * n):
        if right[k] > 2 or down[k] > 2:
            return False
        if k % n == n - 1 and right[k] != 0:
            return False
        if k // n == n - 1 and down[k] != 0:
            return False
    return True


def units_of_frame(n, regions):
    """Rows, columns and regions in their order, each as the set of its cells."""
    rows = [0] * n
    columns = [0] * n
    areas = [0] * n
    for k in range(n * n):
        rows[k // n] |= 1 << k
        columns[k % n] |= 1 << k
        if regions[k] != NO_REGION:
            areas[regions[k]] |= 1 << k
    if areas[0] == 0:
        return rows + columns
    return rows + columns + areas


def signs_of_frame(n, right, down):
    """Each sign as its cell, its direction, the cell of the less number, that of the greater one."""
    signs = []
    for k in range(n * n):
        if right[k] != 0:
            signs.append(one_sign(k, RIGHT, right[k], k + 1))
        if down[k] != 0:
            signs.append(one_sign(k, DOWN, down[k], k + n))
    return signs


def one_sign(k, direction, sign, neighbour):
    if sign == LESS:
        return (k, direction, k, neighbour)
    return (k, direction, neighbour, k)


class Frame:
    """A frame that no refusal is due for."""

    def __init__(self, n, regions, right, down, given):
        self.n = n
        self.given = list(given)
        self.units = units_of_frame(n, regions)
        self.signs = signs_of_frame(n, right, down)
        self.pairs = sets_of(2, n)
        self.triples = sets_of(3, n)
        self.units_of = [self.units_with(k) for k in range(n * n)]
        self.peers = [self.peers_of(k) for k in range(n * n)]
        self.signs_at = [self.signs_with(k) for k in range(n * n)]

    def units_with(self, k):
        return [u for u, unit in enumerate(self.units) if unit >> k & 1]

    def peers_of(self, k):
        """The other cells of k's units."""
        found = 0
        for u in self.units_of[k]:
            found |= self.units[u]
        return found & ~(1 << k)

    def signs_with(self, k):
        return [sign for sign in self.signs if k in (sign[2], sign[3])]

    def cells_of(self, u):
        return members(self.units[u])
