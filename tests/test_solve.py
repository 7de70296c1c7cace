"""Promise 4: solve."""

import unittest

from helper import boxes, cell, marked, read, run, solve, step, text_given

NEEDS_TRIAL = read(3, right=marked(3, c0=1, c4=2))
HARD_GIVEN = text_given("""
    000000010 400000000 020000000
    000050407 008000300 001090000
    300400200 050100000 000806000""")
HARD_FILLING = text_given("""
    693784512 487512936 125963874
    932651487 568247391 741398625
    319475268 856129743 274836159""")
OPEN_GIVEN = text_given("""
    100007090 030020008 009600500
    005300900 010080002 600004000
    300000010 040000007 007000300""")


class Refusals(unittest.TestCase):
    def test_hardest_that_is_no_kind(self):
        for hardest in (0, 7, 255, 4294967295):
            self.assertEqual(run(read(2, given=[1, 0, 0, 0]), solve(hardest), solve(1))[1:], [[-22], [2, 1, 1]])

    def test_also_where_it_is_broken(self):
        self.assertEqual(run(read(2, given=[1, 1, 0, 0]), solve(0), solve(7))[1:], [[-22], [-22]])


class Ends(unittest.TestCase):
    def test_no_step(self):
        for n in (2, 5, 9):
            for hardest in range(1, 7):
                self.assertEqual(run(read(n), solve(hardest))[1], [0, 0, 0])

    def test_filled_from_the_beginning(self):
        self.assertEqual(run(read(2, given=[1, 2, 2, 1]), solve(6))[1], [0, 0, 1])

    def test_broken_from_the_beginning(self):
        self.assertEqual(run(read(2, given=[1, 1, 0, 0]), solve(6), cell(0), cell(2))[1:], [[0, 0, 2], [2], [6]])

    def test_filled(self):
        # Cell 0 leaves 2 alone in cells 1 and 2; cell 1 then strikes it in cell 3.
        self.assertEqual(run(read(2, given=[1, 0, 0, 0]), solve(1), cell(1), cell(2), cell(3))[1:],
                         [[2, 1, 1], [4], [4], [2]])

    def test_broken_on_the_way(self):
        self.assertEqual(run(read(3, given=marked(3, c0=1, c1=1)), solve(1), solve(1), step(1))[1:],
                         [[1, 1, 2], [0, 0, 2], [-33]])

    def test_open_for_a_kind_then_further(self):
        self.assertEqual(run(NEEDS_TRIAL, solve(1), solve(2), solve(3), solve(4), solve(5), solve(6), solve(6))[1:],
                         [[0, 0, 0], [0, 0, 0], [4, 3, 0], [0, 0, 0], [0, 0, 0], [3, 6, 0], [0, 0, 0]])

    def test_the_greatest_kind_is_not_the_last(self):
        found = run(NEEDS_TRIAL, solve(6), read(3), NEEDS_TRIAL, *[step(6)] * 8)
        self.assertEqual(found[1], [7, 6, 0])
        self.assertEqual([answer[1] for answer in found[4:11]], [3, 3, 2, 1, 6, 1, 2])
        self.assertEqual(found[11], [0])

    def test_a_whole_square(self):
        found = run(read(9, boxes(9, 3, 3), given=HARD_GIVEN), solve(2), *[cell(k) for k in range(81)])
        self.assertEqual(found[1][1:], [2, 1])
        self.assertEqual(found[2:], [[1 << v] for v in HARD_FILLING])

    def test_a_square_that_stays_open(self):
        frame = read(9, boxes(9, 3, 3), given=OPEN_GIVEN)
        self.assertEqual(run(frame, solve(6), step(6))[1:], [[32, 6, 0], [0]])


class AsStepsDo(unittest.TestCase):
    FRAMES = (
        NEEDS_TRIAL,
        read(2, given=[2, 0, 0, 0]),
        read(3, given=marked(3, c0=1, c1=1)),
        read(4, boxes(4, 2, 2), given=marked(4, c2=3, c3=4)),
        read(4, right=marked(4, c2=2, c8=2), down=marked(4, c3=2, c9=2)),
        read(9, boxes(9, 3, 3), given=HARD_GIVEN),
        read(9, boxes(9, 3, 3), given=OPEN_GIVEN),
    )

    def test_as_many_calls_of_step(self):
        for frame in self.FRAMES:
            n = frame[1]
            cells = [cell(k) for k in range(n * n)]
            for hardest in range(1, 7):
                solved = run(frame, solve(hardest), *cells, step(hardest))
                made, greatest, end = solved[1]
                stepped = run(frame, *[step(hardest)] * made, *cells, step(hardest))
                steps = stepped[1:1 + made]
                self.assertTrue(all(answer[0] == 1 for answer in steps))
                self.assertEqual(greatest, max([0] + [answer[1] for answer in steps]))
                self.assertEqual(stepped[1 + made:], solved[2:])
                self.assertEqual(solved[-1], [-33] if end == 2 else [0])


if __name__ == "__main__":
    unittest.main()
