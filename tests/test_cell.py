"""Promise 3: cell."""

import unittest

from helper import bits, cell, marked, read, run, solve, step


class Cell(unittest.TestCase):
    def test_no_such_cell(self):
        for n in range(2, 10):
            found = run(read(n), *[cell(k) for k in (n * n - 1, n * n, n * n + 1, 255, 4294967295)])
            self.assertEqual(found[1:], [[bits(range(1, n + 1))], [-2], [-2], [-2], [-2]], n)

    def test_at_first(self):
        self.assertEqual(run(read(2), cell(0), cell(3)), [[0], [6], [6]])
        self.assertEqual(run(read(9), cell(0), cell(80)), [[0], [1022], [1022]])

    def test_given(self):
        given = [1, 0, 3, 2, 0, 0, 0, 0, 3]
        found = run(read(3, given=given), *[cell(k) for k in range(9)])
        self.assertEqual(found[1:], [[1 << v if v else 14] for v in given])

    def test_after_steps(self):
        line = [read(3, given=marked(3, c4=2)), cell(1), step(1), cell(1), cell(4), cell(0), solve(6), cell(1)]
        found = run(*line)
        self.assertEqual([found[at] for at in (1, 3, 4, 5, 7)], [[14], [10], [4], [14], [10]])

    def test_nothing_left(self):
        found = run(read(3, given=marked(3, c0=1, c1=1)), step(1), cell(0), cell(1), cell(9))
        self.assertEqual(found[2:], [[2], [0], [-2]])

    def test_asking_changes_nothing(self):
        frame = read(3, right=marked(3, c0=1, c4=2))
        self.assertEqual(run(frame, cell(0), cell(9), solve(6))[3], run(frame, solve(6))[1])

    def test_of_the_latest_square(self):
        self.assertEqual(run(read(4), cell(15), read(3), cell(15), cell(8)), [[0], [30], [0], [-2], [14]])


if __name__ == "__main__":
    unittest.main()
