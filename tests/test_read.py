"""Promise 1: read."""

import unittest

from helper import NONE, bits, boxes, cell, marked, read, run, solve, step

ALL = {n: bits(range(1, n + 1)) for n in range(2, 10)}


def answer(*told, **more):
    return run(read(*told, **more))[0]


class Sizes(unittest.TestCase):
    def test_n_that_is_none(self):
        for n in (0, 1, 10, 11, 255, 4294967295):
            self.assertEqual(answer(n), [-22], n)

    def test_n_from_2_to_9(self):
        for n in range(2, 10):
            found = run(read(n), *[cell(k) for k in range(n * n)])
            self.assertEqual(found, [[0]] + [[ALL[n]]] * (n * n), n)


class Regions(unittest.TestCase):
    def test_none_rows_columns_boxes_and_scattered(self):
        self.assertEqual(answer(9, [NONE] * 81), [0])
        self.assertEqual(answer(9, [k // 9 for k in range(81)]), [0])
        self.assertEqual(answer(9, [k % 9 for k in range(81)]), [0])
        self.assertEqual(answer(9, boxes(9, 3, 3)), [0])
        self.assertEqual(answer(6, boxes(6, 2, 3)), [0])
        self.assertEqual(answer(3, [0, 1, 2, 1, 2, 0, 0, 2, 1]), [0])
        self.assertEqual(answer(2, [1, 0, 0, 1]), [0])

    def test_not_just_n_cells(self):
        self.assertEqual(answer(2, [0, 0, 0, 1]), [-71])
        self.assertEqual(answer(2, [0, 0, 0, 0]), [-71])
        self.assertEqual(answer(3, [0, 0, 0, 1, 1, 1, 2, 2, 1]), [-71])

    def test_number_that_is_no_region(self):
        self.assertEqual(answer(2, [0, 0, 2, 2]), [-71])
        self.assertEqual(answer(2, [1, 1, 2, 2]), [-71])
        self.assertEqual(answer(2, [254] * 4), [-71])
        self.assertEqual(answer(9, boxes(9, 3, 3)[:80] + [9]), [-71])

    def test_none_in_some_cells_alone(self):
        self.assertEqual(answer(2, [0, 0, NONE, NONE]), [-71])
        self.assertEqual(answer(2, [NONE, NONE, NONE, 0]), [-71])
        self.assertEqual(answer(3, [0, 0, 0, 1, 1, 1, NONE, NONE, NONE]), [-71])


class Signs(unittest.TestCase):
    def test_each_that_may_stand(self):
        for sign in (1, 2):
            for k in (0, 1, 3, 4, 6, 7):
                self.assertEqual(answer(3, right=marked(3, **{f"c{k}": sign})), [0])
            for k in range(6):
                self.assertEqual(answer(3, down=marked(3, **{f"c{k}": sign})), [0])

    def test_last_column_and_last_row(self):
        for sign in (1, 2):
            for k in (2, 5, 8):
                self.assertEqual(answer(3, right=marked(3, **{f"c{k}": sign})), [-72])
            for k in (6, 7, 8):
                self.assertEqual(answer(3, down=marked(3, **{f"c{k}": sign})), [-72])
        self.assertEqual(answer(9, right=marked(9, c80=1)), [-72])
        self.assertEqual(answer(9, down=marked(9, c72=2)), [-72])

    def test_above_two(self):
        for sign in (3, 255):
            self.assertEqual(answer(2, right=[sign, 0, 0, 0]), [-72])
            self.assertEqual(answer(2, down=[0, sign, 0, 0]), [-72])
            self.assertEqual(answer(9, right=marked(9, c79=sign)), [-72])


class Given(unittest.TestCase):
    def test_up_to_n(self):
        for n in range(2, 10):
            self.assertEqual(run(read(n, given=marked(n, c1=n)), cell(1)), [[0], [1 << n]])

    def test_above_n(self):
        for n in range(2, 10):
            for wrong in (n + 1, 255):
                self.assertEqual(answer(n, given=[0] * (n * n - 1) + [wrong]), [-73])
                self.assertEqual(answer(n, given=[wrong] + [0] * (n * n - 1)), [-73])


class WhichRefusal(unittest.TestCase):
    def test_the_first_told(self):
        wrong_regions, wrong_sign, wrong_given = [0] * 4, [3, 0, 0, 0], [3, 0, 0, 0]
        self.assertEqual(answer(2, wrong_regions, wrong_sign, wrong_sign, wrong_given), [-71])
        self.assertEqual(answer(2, wrong_regions, given=wrong_given), [-71])
        self.assertEqual(answer(2, wrong_regions, down=wrong_sign), [-71])
        self.assertEqual(answer(2, None, wrong_sign, None, wrong_given), [-72])
        self.assertEqual(answer(2, None, None, wrong_sign, wrong_given), [-72])
        self.assertEqual(answer(2, None, None, None, wrong_given), [-73])


class Again(unittest.TestCase):
    def test_refused_read_leaves_all_as_it_was(self):
        begun = [read(3, right=marked(3, c0=1), given=marked(3, c8=3)), step(3), step(3)]
        rest = [cell(k) for k in range(10)] + [step(6), solve(6), solve(6)]
        unmoved = run(*begun, *rest)
        for refused in (read(0), read(10), read(2, [0] * 4), read(4, right=marked(4, c3=1)), read(2, given=[3] * 4)):
            found = run(*begun, refused, *rest)
            self.assertLess(found[len(begun)][0], 0)
            self.assertEqual(found[:len(begun)] + found[len(begun) + 1:], unmoved)

    def test_refused_before_the_first(self):
        self.assertEqual(run(read(1), read(2, [0] * 4), read(2), cell(0)), [[-22], [-71], [0], [6]])

    def test_later_read_begins_anew(self):
        first = [read(4, boxes(4, 2, 2), given=marked(4, c0=1, c2=2, c8=3)), solve(6)]
        second = [read(3, right=marked(3, c0=1, c4=2)), step(6), solve(6)] + [cell(k) for k in range(10)]
        self.assertEqual(run(*first, *second), run(*first) + run(*second))
        self.assertEqual(run(*second, *first, *first), run(*second) + run(*first) + run(*first))

    def test_the_same_frame_again(self):
        line = [read(3, right=marked(3, c0=1, c4=2)), solve(5), step(6), cell(0)]
        self.assertEqual(run(*line, *line), run(*line) * 2)

    def test_read_mends_a_broken_square(self):
        self.assertEqual(run(read(2, given=[1, 1, 0, 0]), step(1), read(2), step(6)), [[0], [-33], [0], [0]])


if __name__ == "__main__":
    unittest.main()
