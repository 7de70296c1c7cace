"""The corners that the document names."""

import unittest

from helper import bits, boxes, cell, marked, read, run, solve, step, told_step


class BrokenFromTheBeginning(unittest.TestCase):
    def test_a_number_in_no_cell_of_a_row(self):
        frame = read(3, given=[1, 1, 1, 0, 0, 0, 0, 0, 0])
        self.assertEqual(run(frame, step(1), step(6), solve(6), cell(0), cell(3)),
                         [[0], [-33], [-33], [0, 0, 2], [2], [14]])

    def test_of_a_column(self):
        self.assertEqual(run(read(2, given=[2, 0, 2, 0]), step(6)), [[0], [-33]])

    def test_of_a_region(self):
        self.assertEqual(run(read(2, [0, 1, 1, 0], given=[2, 0, 0, 2]), step(6)), [[0], [-33]])
        self.assertEqual(run(read(2, given=[2, 0, 0, 2]), solve(6)), [[0], [1, 1, 1]])

    def test_a_number_twice_is_not_yet_broken(self):
        frame = read(3, given=marked(3, c0=1, c1=1))
        self.assertEqual(run(frame, step(1), step(1))[1:],
                         [told_step(1, 0, 0, {1}, {1: {1}, 2: {1}, 3: {1}, 6: {1}}), [-33]])


class GivenAgainstASign(unittest.TestCase):
    def test_the_greatest_number_less_than_another(self):
        frame = read(3, right=marked(3, c0=1), given=marked(3, c0=3))
        self.assertEqual(run(frame, *[step(3)] * 3)[1:], [
            told_step(1, 0, 0, {3}, {1: {3}, 2: {3}, 3: {3}, 6: {3}}),
            told_step(3, 0, 0, (), {0: {3}, 1: {1, 2}}),
            [-33]])
        self.assertEqual(run(frame, solve(2), solve(3))[1:], [[1, 1, 0], [1, 3, 2]])

    def test_the_least_number_greater_than_another(self):
        frame = read(3, down=marked(3, c4=2), given=marked(3, c4=1))
        self.assertEqual(run(frame, solve(3))[1], [2, 3, 2])


class SignBetweenSettledCells(unittest.TestCase):
    def test_that_holds(self):
        frame = read(2, right=[1, 0, 2, 0], down=[1, 2, 0, 0], given=[1, 2, 2, 1])
        self.assertEqual(run(frame, step(6), solve(6))[1:], [[0], [0, 0, 1]])

    def test_that_does_not_hold(self):
        frame = read(2, right=[2, 0, 0, 0], given=[1, 2, 2, 1])
        self.assertEqual(run(frame, step(2), step(3), step(3))[1:],
                         [[0], told_step(3, 0, 0, (), {0: {1}, 1: {2}}), [-33]])

    def test_between_like_numbers(self):
        # The settled cell strikes the other's number before the sign is looked at.
        frame = read(3, down=marked(3, c0=1), given=marked(3, c0=2, c3=2))
        self.assertEqual(run(frame, solve(3))[1], [1, 1, 2])


class TwoByTwo(unittest.TestCase):
    def test_only_1_and_2(self):
        self.assertEqual(run(read(2, given=[3, 0, 0, 0]))[0], [-73])
        self.assertEqual(run(read(2), *[cell(k) for k in range(5)])[1:], [[6]] * 4 + [[-2]])

    def test_a_sign_fills_it(self):
        found = run(read(2, right=[1, 0, 0, 0]), step(3), *[step(3)] * 3, *[cell(k) for k in range(4)])
        self.assertEqual(found[1:], [
            told_step(3, 0, 0, (), {0: {2}, 1: {1}}),
            told_step(1, 0, 0, {1}, {2: {1}}),
            told_step(1, 1, 0, {2}, {3: {2}}),
            [0], [2], [4], [4], [2]])

    def test_regions_that_leave_no_filling(self):
        # Cells 0 and 3 can't be unlike: a trial of 1 in cell 0 would give 1 to cell 3 as well.
        self.assertEqual(run(read(2, [0, 1, 1, 0]), step(5), step(6), step(6))[1:3],
                         [[0], told_step(6, 0, 0, {1}, {0: {1}})])
        self.assertEqual(run(read(2, [0, 1, 1, 0]), solve(6))[1], [2, 6, 2])

    def test_open(self):
        self.assertEqual(run(read(2), step(6), solve(6))[1:], [[0], [0, 0, 0]])


class RegionsThatAreRows(unittest.TestCase):
    FRAMES = (
        (3, marked(3, c0=1, c4=2), None, None),
        (4, marked(4, c2=2, c8=2), marked(4, c3=2, c9=2), None),
        (4, None, None, marked(4, c8=3, c12=4, c9=4, c13=3)),
        (3, None, None, marked(3, c3=1, c7=1)),
    )

    def test_the_same_steps_as_without(self):
        for n, right, down, given in self.FRAMES:
            rows = [k // n for k in range(n * n)]
            calls = [step(6)] * 30 + [solve(6)] + [cell(k) for k in range(n * n)]
            self.assertEqual(run(read(n, rows, right, down, given), *calls),
                             run(read(n, None, right, down, given), *calls))

    def test_a_unit_locks_nothing_in_its_like(self):
        self.assertEqual(run(read(4, [k // 4 for k in range(16)], given=marked(4, c0=1)), solve(6))[1], [1, 1, 0])


class LockedInAColumnByOneCell(unittest.TestCase):
    def test_one_cell_is_settled_first(self):
        frame = read(3, given=[2, 3, 0, 0, 0, 0, 0, 0, 0])
        found = run(frame, *[step(4)] * 3)[1:]
        self.assertEqual([answer[1] for answer in found], [1, 1, 1])
        self.assertEqual(found[2], told_step(1, 2, 0, {1}, {5: {1}, 8: {1}}))

    def test_one_cell_is_the_only_place_first(self):
        # Number 1 is in cell 2 alone of row 0, but in other cells of column 2 too.
        frame = read(4, right=marked(4, c0=2, c2=1), down=marked(4, c1=2))
        found = run(frame, *[step(4)] * 6)[1:]
        self.assertEqual([answer[1] for answer in found], [3, 3, 3, 3, 2, 1])
        self.assertEqual(found[4:], [told_step(2, 0, 0, {1}, {2: {2, 3}}),
                                     told_step(1, 2, 0, {1}, {6: {1}, 10: {1}, 14: {1}})])

    def test_two_cells_of_a_region(self):
        frame = read(6, boxes(6, 2, 3), given=marked(6, c1=2, c2=3, c7=4, c8=5))
        found = run(frame, *[step(4)] * 5)[1:]
        self.assertEqual(found[4], told_step(4, 12, 6, {1}, {k: {1} for k in (12, 18, 24, 30)}))


class FewForFew(unittest.TestCase):
    def test_three_cells_of_which_each_has_two(self):
        frame = read(5, given=[0, 0, 0, 0, 0, 3, 4, 5, 0, 0, 4, 5, 2, 0, 0, 5, 1, 4, 0, 0, 0, 0, 0, 0, 0])
        found = run(frame, solve(4), cell(0), cell(1), cell(2), step(5))
        self.assertEqual(found[2:5], [[bits({1, 2})], [bits({2, 3})], [bits({1, 3})]])
        self.assertEqual(found[5], told_step(5, 0, 3, {1, 2, 3}, {3: {1, 2, 3}, 4: {1, 2, 3}}))

    def test_three_cells_with_but_two_numbers(self):
        # Cells 0, 1 and 2 have 1 and 2 alone: not just two cells, but just three for any set of three with these.
        frame = read(6, given=[0, 0, 0, 0, 0, 0,
                               0, 0, 0, 0, 0, 0,
                               3, 4, 5, 0, 0, 0,
                               4, 5, 6, 0, 0, 0,
                               5, 6, 3, 0, 0, 0,
                               6, 3, 4, 0, 0, 0])
        found = run(frame, solve(4), cell(0), cell(1), cell(2), cell(6), step(5))
        self.assertEqual(found[1][2], 0)
        self.assertEqual(found[2:6], [[6]] * 4)
        self.assertEqual(found[6], told_step(5, 0, 3, {1, 2, 3}, {3: {1, 2, 3}, 4: {1, 2, 3}, 5: {1, 2, 3}}))


class TrialThatEndsOpen(unittest.TestCase):
    def test_strikes_nothing(self):
        for n in (3, 4, 9):
            self.assertEqual(run(read(n), step(6), cell(0))[1:], [[0], [bits(range(1, n + 1))]])

    def test_the_next_one_is_tried(self):
        # Of cell 0 the trial of 1 ends open, that of 2 breaks.
        frame = read(3, right=marked(3, c0=1, c4=2))
        self.assertEqual(run(frame, solve(5), cell(0), step(6))[2:], [[6], told_step(6, 0, 0, {2}, {0: {2}})])

    def test_no_few_for_few_in_a_trial(self):
        # With steps of kind 5 too the trial of 4 in cell 22 would break; with kinds 1 to 4 it ends open.
        frame = read(6, right=marked(6, c1=1, c7=2, c30=2, c31=2),
                     down=marked(6, c0=1, c3=2, c7=2, c15=2, c18=2, c20=1, c21=1),
                     given=marked(6, c3=5, c14=1, c17=4, c21=1, c24=1, c25=6, c26=5))
        self.assertEqual(run(frame, solve(6), step(6), cell(22))[1:], [[19, 5, 0], [0], [bits({2, 3, 4, 5, 6})]])


if __name__ == "__main__":
    unittest.main()
