"""Promise 5: what holds, on squares so small that their fillings are counted out one by one."""

import random
import unittest

from helper import Plain, bits, cell, fillings, marked, plain_steps, read, run, solve, some_frame, step


def frames(seed, count, wrong, sizes=(2, 3, 3, 4)):
    chance = random.Random(seed)
    return [some_frame(chance, chance.choice(sizes), wrong) for _ in range(count)]


def cells_after(frame, *calls):
    """What is in the cells after the calls."""
    size = frame[0] * frame[0]
    return [answer[0] for answer in run(read(*frame), *calls, *[cell(k) for k in range(size)])[-size:]]


class NoFillingIsStruck(unittest.TestCase):
    def test_each_step(self):
        for frame in frames(1, 120, 0.02):
            found = fillings(Plain(*frame))
            for answer in run(read(*frame), *[step(6)] * 70)[1:]:
                if answer[0] == 1:
                    for filling in found:
                        self.assertFalse(any(answer[5 + k] >> v & 1 for k, v in enumerate(filling)), frame)

    def test_broken_only_without_filling(self):
        ends = {0: 0, 1: 0, 2: 0}
        for frame in frames(2, 150, 0.1):
            for hardest in range(1, 7):
                end = run(read(*frame), solve(hardest))[1][2]
                ends[end] += 1
                if end == 2:
                    self.assertEqual(fillings(Plain(*frame)), [], frame)
        self.assertTrue(all(count > 20 for count in ends.values()), ends)


class TheOnlyFilling(unittest.TestCase):
    def test_one_number_in_each_cell(self):
        seen = 0
        for frame in frames(3, 150, 0.03):
            for hardest in range(3, 7):
                if run(read(*frame), solve(hardest))[1][2] == 1:
                    seen += 1
                    found = cells_after(frame, solve(hardest))
                    self.assertEqual([[1 << v for v in filling] for filling in fillings(Plain(*frame))], [found])
        self.assertGreater(seen, 50)

    def test_with_steps_up_to_kind_2_signs_may_be_left(self):
        frame = (2, None, [2, 0, 0, 0], None, [1, 0, 0, 0])
        self.assertEqual(run(read(*frame), solve(2), solve(3))[1:], [[2, 1, 1], [1, 3, 2]])
        self.assertEqual(fillings(Plain(*frame)), [])


class TheSameEnd(unittest.TestCase):
    def test_whichever_steps_are_made_first(self):
        chance = random.Random(4)
        for frame in frames(5, 20, 0):
            if not fillings(Plain(*frame)):
                continue
            for hardest in range(1, 7):
                square = Plain(*frame)
                while True:
                    there = list(plain_steps(square, hardest))
                    if not there:
                        break
                    square.make(chance.choice(there))
                self.assertEqual(cells_after(frame, solve(hardest)), [bits(numbers) for numbers in square.cells])

    def test_easy_steps_before_or_between(self):
        for frame in frames(6, 60, 0):
            if fillings(Plain(*frame)):
                straight = cells_after(frame, solve(6))
                self.assertEqual(cells_after(frame, *[solve(hardest) for hardest in range(1, 7)]), straight)
                self.assertEqual(cells_after(frame, *[step(1), step(4), step(2)] * 9, solve(6)), straight)

    def test_less_at_first_is_no_more_at_the_end(self):
        for frame in frames(7, 60, 0):
            found = fillings(Plain(*frame))
            n, regions, right, down, given = frame
            for hardest in range(1, 7):
                wide = cells_after(frame, solve(hardest))
                for filling, k in [(filling, k) for filling in found[-1:] for k in range(0, n * n, 2)]:
                    more = given[:k] + [filling[k]] + given[k + 1:]
                    narrow = cells_after((n, regions, right, down, more), solve(hardest))
                    self.assertTrue(all(few & ~many == 0 for few, many in zip(narrow, wide)))


class Fillings(unittest.TestCase):
    """That the counting out itself can be trusted."""

    def test_counts_that_are_known(self):
        self.assertEqual([len(fillings(Plain(n))) for n in (2, 3, 4)], [2, 12, 576])
        self.assertEqual(fillings(Plain(2, right=marked(2, c0=1))), [[1, 2, 2, 1]])
        self.assertEqual(fillings(Plain(2, given=[0, 0, 0, 2])), [[2, 1, 1, 2]])
        self.assertEqual(fillings(Plain(2, [0, 1, 1, 0])), [])


if __name__ == "__main__":
    unittest.main()
