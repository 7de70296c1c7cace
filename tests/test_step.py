"""Promise 2: step."""

import unittest

from helper import bits, boxes, cell, marked, read, run, solve, step, told_step

# After four easy steps number 2 in cell 0 breaks: cell 6 would be 3, so cell 8 would be 2; cell 2 would be 1,
# so cell 5 would be 2 as well, in one column with cell 8.
NEEDS_TRIAL = read(3, right=marked(3, c0=1, c4=2))
# Cells 0 and 1 share their numbers with cells 4 and 5 below.
PAIR = read(4, given=marked(4, c8=3, c12=4, c9=4, c13=3))
TRIPLE = read(5, given=[0, 0, 0, 0, 0,
                        3, 4, 5, 0, 0,
                        4, 5, 2, 0, 0,
                        5, 1, 4, 0, 0,
                        0, 0, 0, 0, 0])
BOX = read(4, boxes(4, 2, 2), given=marked(4, c2=3, c3=4))


def steps_of(frame, hardest, count):
    """The answers of that many steps."""
    return run(frame, *[step(hardest)] * count)[1:]


class Refusals(unittest.TestCase):
    def test_hardest_that_is_no_kind(self):
        for hardest in (0, 7, 8, 4294967295):
            self.assertEqual(steps_of(PAIR, hardest, 1), [[-22]])

    def test_broken(self):
        for hardest in range(1, 7):
            self.assertEqual(steps_of(read(2, given=[1, 1, 0, 0]), hardest, 2), [[-33], [-33]])

    def test_wrong_hardest_is_told_before_broken(self):
        for hardest in (0, 7):
            self.assertEqual(steps_of(read(2, given=[1, 1, 0, 0]), hardest, 1), [[-22]])

    def test_refusal_changes_nothing(self):
        self.assertEqual(run(PAIR, step(0), step(7), step(1)), run(PAIR) + [[-22], [-22]] + steps_of(PAIR, 1, 1))

    def test_no_step(self):
        for n in (2, 3, 9):
            for hardest in range(1, 7):
                self.assertEqual(steps_of(read(n), hardest, 2), [[0], [0]])


class Settled(unittest.TestCase):
    def test_strikes_in_row_and_column(self):
        frame = read(3, given=marked(3, c4=2))
        self.assertEqual(steps_of(frame, 1, 2), [told_step(1, 4, 0, {2}, {k: {2} for k in (1, 3, 5, 7)}), [0]])

    def test_strikes_in_the_region_too(self):
        frame = read(4, boxes(4, 2, 2), given=marked(4, c0=4))
        cells = (1, 2, 3, 4, 8, 12, 5)
        self.assertEqual(steps_of(frame, 6, 1), [told_step(1, 0, 0, {4}, {k: {4} for k in cells})])

    def test_last_cell_of_the_greatest_square(self):
        frame = read(9, boxes(9, 3, 3), given=marked(9, c80=9))
        cells = [72, 73, 74, 75, 76, 77, 78, 79, 8, 17, 26, 35, 44, 53, 62, 71, 60, 61, 69, 70]
        self.assertEqual(steps_of(frame, 1, 1), [told_step(1, 80, 0, {9}, {k: {9} for k in cells})])

    def test_the_least_cell_first(self):
        frame = read(3, given=marked(3, c1=3, c8=1))
        self.assertEqual(steps_of(frame, 1, 3), [
            told_step(1, 1, 0, {3}, {k: {3} for k in (0, 2, 4, 7)}),
            told_step(1, 8, 0, {1}, {k: {1} for k in (2, 5, 6, 7)}),
            told_step(1, 2, 0, {2}, {0: {2}, 5: {2}})])

    def test_strikes_only_what_is_there(self):
        frame = read(2, given=[1, 0, 0, 1])
        self.assertEqual(steps_of(frame, 1, 3), [
            told_step(1, 0, 0, {1}, {1: {1}, 2: {1}}), [0], [0]])


class OnlyPlace(unittest.TestCase):
    def test_all_others_are_struck_there(self):
        frame = read(3, given=marked(3, c3=1, c7=1))
        self.assertEqual(steps_of(frame, 2, 4)[2:], [told_step(2, 0, 0, {1}, {2: {2, 3}}), [0]])

    def test_not_up_to_kind_1(self):
        frame = read(3, given=marked(3, c3=1, c7=1))
        self.assertEqual(steps_of(frame, 1, 3)[2], [0])

    def test_in_a_column(self):
        # The signs leave no 1 in cells 1 and 4 of column 1; the rows have it elsewhere.
        frame = read(3, right=marked(3, c0=1, c4=2))
        self.assertEqual(steps_of(frame, 6, 3)[2], told_step(2, 4, 0, {1}, {7: {2, 3}}))

    def test_in_a_region(self):
        # Region 0 is cells 0, 2 and 6; number 2 is in two cells of row 0 and of column 0.
        frame = read(3, [0, 1, 0, 1, 1, 2, 0, 2, 2], given=marked(3, c8=2))
        self.assertEqual(steps_of(frame, 2, 2)[1], told_step(2, 6, 0, {2}, {0: {1, 3}}))

    def test_the_least_unit_before_the_least_number(self):
        frame = read(4, given=marked(4, c1=2, c6=1, c8=2, c13=1))
        self.assertEqual(steps_of(frame, 2, 5)[4], told_step(2, 1, 0, {2}, {7: {3, 4}}))

    def test_the_least_number_of_a_unit(self):
        frame = read(5, given=marked(5, c5=1, c11=1, c17=1, c23=1, c6=2, c12=2, c15=2, c24=2))
        self.assertEqual(steps_of(frame, 2, 10)[8:], [
            told_step(2, 0, 0, {1}, {4: {3, 4, 5}}), told_step(2, 0, 0, {2}, {3: {3, 4, 5}})])


class Sign(unittest.TestCase):
    def test_less_to_the_right(self):
        frame = read(3, right=marked(3, c3=1))
        self.assertEqual(steps_of(frame, 3, 2), [told_step(3, 3, 0, (), {3: {3}, 4: {1}}), [0]])

    def test_greater_to_the_right(self):
        frame = read(3, right=marked(3, c4=2))
        self.assertEqual(steps_of(frame, 3, 2), [told_step(3, 4, 0, (), {5: {3}, 4: {1}}), [0]])

    def test_less_down(self):
        frame = read(3, down=marked(3, c5=1))
        self.assertEqual(steps_of(frame, 3, 2), [told_step(3, 5, 1, (), {5: {3}, 8: {1}}), [0]])

    def test_greater_down(self):
        frame = read(3, down=marked(3, c0=2))
        self.assertEqual(steps_of(frame, 3, 2), [told_step(3, 0, 1, (), {3: {3}, 0: {1}}), [0]])

    def test_not_up_to_kind_2(self):
        self.assertEqual(steps_of(read(3, right=marked(3, c3=1)), 2, 1), [[0]])

    def test_one_side_alone(self):
        # The 2 above leaves 3, 4 and 5 below, and none of these forbids the 2.
        frame = read(5, given=marked(5, c0=2), down=marked(5, c0=1))
        self.assertEqual(steps_of(frame, 3, 2)[1], told_step(3, 0, 1, (), {5: {1}}))

    def test_right_before_down_and_the_least_cell_first(self):
        frame = read(4, right=marked(4, c2=2, c8=2), down=marked(4, c3=2, c9=2))
        self.assertEqual(steps_of(frame, 3, 7), [
            told_step(3, 2, 0, (), {2: {1}, 3: {4}}),
            told_step(3, 3, 1, (), {3: {1}, 7: {3, 4}}),
            told_step(3, 2, 0, (), {2: {2}}),
            told_step(3, 8, 0, (), {8: {1}, 9: {4}}),
            told_step(3, 9, 1, (), {9: {1}, 13: {3, 4}}),
            told_step(3, 8, 0, (), {8: {2}}),
            [0]])
        both = read(3, right=marked(3, c0=2), down=marked(3, c0=1))
        self.assertEqual([found[1:4] for found in steps_of(both, 3, 2)], [[3, 0, 0], [3, 0, 1]])

    def test_easier_kinds_come_first(self):
        frame = read(3, right=marked(3, c0=1), given=marked(3, c8=1))
        self.assertEqual([found[1] for found in steps_of(frame, 6, 2)], [1, 3])


class Locked(unittest.TestCase):
    def test_in_a_region_by_a_row(self):
        self.assertEqual(steps_of(BOX, 4, 6)[2:], [
            told_step(4, 0, 8, {1}, {4: {1}, 5: {1}}),
            told_step(4, 0, 8, {2}, {4: {2}, 5: {2}}),
            [0], [0]])

    def test_not_up_to_kind_3(self):
        self.assertEqual(steps_of(BOX, 3, 3)[2], [0])

    def test_in_a_region_by_a_column(self):
        frame = read(4, boxes(4, 2, 2), given=marked(4, c8=3, c12=4))
        self.assertEqual(steps_of(frame, 4, 3)[2], told_step(4, 4, 8, {1}, {1: {1}, 5: {1}}))

    def test_the_least_u_first(self):
        frame = read(4, boxes(4, 2, 2), right=marked(4, c12=2), down=marked(4, c8=2))
        self.assertEqual(steps_of(frame, 4, 5)[3:], [
            told_step(4, 3, 11, {4}, {10: {4}, 11: {4}}), told_step(4, 4, 8, {1}, {1: {1}, 5: {1}})])

    def test_the_least_w_before_the_least_number(self):
        # From column 5 number 6 is locked in region 1 (unit 13), number 3 in region 3 (unit 15).
        frame = read(6, boxes(6, 2, 3), given=marked(6, c9=3, c20=4, c22=6, c29=1, c35=4))
        self.assertEqual(steps_of(frame, 4, 7)[5:], [
            told_step(4, 11, 13, {6}, {3: {6}}), told_step(4, 11, 15, {3}, {16: {3}})])

    def test_in_a_row_by_a_region(self):
        # Region 0 has its 1 in row 0, but row 0 has no number in one region alone.
        frame = read(6, boxes(6, 2, 3), given=marked(6, c6=2, c7=3, c8=4))
        found = steps_of(frame, 4, 4)[3]
        self.assertEqual(found[1], 4)
        self.assertEqual(found, told_step(4, 1, 13, {1}, {3: {1}, 4: {1}, 5: {1}}))


class FewForFew(unittest.TestCase):
    def test_two_numbers_for_two_cells(self):
        self.assertEqual(steps_of(PAIR, 5, 5)[4], told_step(5, 0, 2, {1, 2}, {2: {1, 2}, 3: {1, 2}}))

    def test_not_up_to_kind_4(self):
        self.assertEqual(steps_of(PAIR, 4, 5)[4], [0])
        self.assertEqual(steps_of(TRIPLE, 4, 10)[9], [0])

    def test_three_numbers_for_three_cells_of_which_each_has_two(self):
        self.assertEqual(steps_of(TRIPLE, 5, 10)[9],
                         told_step(5, 0, 3, {1, 2, 3}, {3: {1, 2, 3}, 4: {1, 2, 3}}))

    def test_the_set_as_a_number(self):
        # In row 0 are {1, 4} twice, {2, 3} twice, and twice all: as a number {2, 3} is less.
        frame = read(6, given=[0, 0, 0, 0, 0, 0,
                               0, 0, 0, 0, 0, 0,
                               2, 3, 5, 6, 0, 0,
                               3, 2, 6, 5, 0, 0,
                               5, 6, 1, 4, 0, 0,
                               6, 5, 4, 1, 0, 0])
        self.assertEqual(steps_of(frame, 5, 18)[16:], [
            told_step(5, 0, 2, {2, 3}, {4: {2, 3}, 5: {2, 3}}), told_step(5, 0, 2, {1, 4}, {4: {1, 4}, 5: {1, 4}})])

    def test_two_for_two_before_a_lesser_unit(self):
        frame = read(5, right=marked(5, c7=1, c17=1), down=marked(5, c2=1, c10=2),
                     given=marked(5, c1=3, c5=5, c13=2, c16=5))
        found = steps_of(frame, 5, 10)
        self.assertEqual(found[8], told_step(5, 8, 2, {3, 4}, {3: {4}, 23: {3, 4}}))
        self.assertEqual(found[9], told_step(5, 7, 3, {1, 2, 3}, {12: {1, 3}, 22: {1, 2, 3}}))


class Trial(unittest.TestCase):
    def test_what_breaks_is_struck(self):
        self.assertEqual(steps_of(NEEDS_TRIAL, 6, 5)[4], told_step(6, 0, 0, {2}, {0: {2}}))

    def test_not_up_to_kind_5(self):
        self.assertEqual(steps_of(NEEDS_TRIAL, 5, 5)[4], [0])

    def test_the_least_cell_then_the_least_number(self):
        frame = read(4, right=marked(4, c2=2, c8=2), down=marked(4, c3=2, c9=2))
        self.assertEqual(steps_of(frame, 6, 9)[6:], [
            told_step(6, 0, 0, {3}, {0: {3}}), told_step(6, 0, 0, {4}, {0: {4}}), told_step(6, 5, 0, {1}, {5: {1}})])

    def test_with_steps_of_kinds_2_3_and_4(self):
        # Each of these trials would end open, were it not for the kind named.
        only_place = read(4, [1, 3, 2, 0, 1, 2, 1, 1, 2, 0, 3, 0, 3, 3, 2, 0], given=marked(4, c13=1))
        sign = read(4, boxes(4, 2, 2), right=marked(4, c8=2), down=marked(4, c1=2))
        locked = read(4, [1, 3, 0, 3, 2, 0, 0, 1, 2, 2, 2, 1, 0, 3, 1, 3], given=marked(4, c10=3))
        for frame, k, v in ((only_place, 3, 2), (sign, 1, 2), (locked, 1, 1)):
            self.assertEqual(run(frame, solve(5), step(6))[2], told_step(6, k, 0, {v}, {k: {v}}))

    def test_trials_leave_no_mark(self):
        frame = read(4, boxes(4, 2, 2), given=marked(4, c0=1))
        found = run(frame, step(6), step(6), step(6), *[cell(k) for k in range(16)])
        self.assertEqual(found[2:4], [[0], [0]])
        peers = (1, 2, 3, 4, 5, 8, 12)
        self.assertEqual(found[4:], [[2]] + [[bits({2, 3, 4} if k in peers else {1, 2, 3, 4})] for k in range(1, 16)])


class Hardest(unittest.TestCase):
    def test_no_harder_kind_is_made(self):
        for frame in (NEEDS_TRIAL, PAIR, TRIPLE, BOX):
            for hardest in range(1, 7):
                for found in steps_of(frame, hardest, 40):
                    self.assertTrue(found == [0] or found[1] <= hardest)

    def test_one_line_with_several(self):
        found = run(NEEDS_TRIAL, step(2), step(3), step(1), step(3), step(1), step(2), step(5), step(5), step(6), step(5))
        self.assertEqual([answer[:2] for answer in found[1:]],
                         [[0], [1, 3], [0], [1, 3], [0], [1, 2], [1, 1], [0], [1, 6], [1, 1]])

    def test_no_step_is_no_step_still(self):
        self.assertEqual(steps_of(TRIPLE, 4, 13)[9:], [[0]] * 4)


class Stays(unittest.TestCase):
    def test_strikes_stay(self):
        cells = [cell(k) for k in range(9)]
        found = run(NEEDS_TRIAL, *cells, *(call for _ in range(9) for call in [step(6)] + cells))
        before = [answer[0] for answer in found[1:10]]
        for at in range(10, len(found), 10):
            if found[at][0] == 1:
                self.assertEqual(len(found[at]), 86)
                struck = found[at][5:14]
                self.assertTrue(any(struck))
                self.assertEqual(found[at][14:], [0] * 72)
                self.assertEqual([had & some for had, some in zip(before, struck)], struck)
                before = [had ^ some for had, some in zip(before, struck)]
            self.assertEqual([answer[0] for answer in found[at + 1:at + 10]], before)

    def test_same_after_solve(self):
        self.assertEqual(run(PAIR, solve(4), step(5))[2], steps_of(PAIR, 5, 5)[4])


if __name__ == "__main__":
    unittest.main()
