"""Drawn squares, step by step beside the document's words done plainly."""

import random
import unittest

from helper import Plain, bits, cell, plain_solve, plain_step, read, run, solve, some_frame, step


class AgainstWords(unittest.TestCase):
    def hold(self, seed, count, sizes, wrong):
        """Draw frames and hold each answer against the words; tells how often each kind was made."""
        chance = random.Random(seed)
        kinds = {}
        for _ in range(count):
            frame = some_frame(chance, chance.choice(sizes), wrong)
            square = Plain(*frame)
            usual = chance.choice((2, 3, 4, 5, 6, 6, 6))
            calls, wanted = [read(*frame)], [[0]]
            for _ in range(chance.randrange(60)):
                hardest = usual if chance.random() < 0.9 else chance.randint(1, 6)
                calls.append(step(hardest))
                wanted.append(plain_step(square, hardest))
                kinds[tuple(wanted[-1][:2])] = kinds.get(tuple(wanted[-1][:2]), 0) + 1
                if wanted[-1] == [-33] or hardest == 6 and wanted[-1] == [0]:
                    break
            calls.append(solve(usual))
            wanted.append(plain_solve(square, usual))
            calls += [cell(k) for k in range(len(square.cells))]
            wanted += [[bits(numbers)] for numbers in square.cells]
            self.assertEqual(run(*calls), wanted, frame)
        return kinds

    def test_squares_with_a_filling(self):
        kinds = self.hold(11, 150, (3, 4, 4, 5), 0)
        for kind in range(1, 7):
            self.assertGreater(kinds.get((1, kind), 0), 0, kind)

    def test_squares_with_wrong_numbers_and_signs(self):
        kinds = self.hold(12, 250, (2, 3, 4), 0.1)
        self.assertGreater(kinds[(-33,)], 10)
        self.assertGreater(kinds[(0,)], 10)

    def test_greater_squares(self):
        self.hold(13, 10, (5, 6), 0.01)


if __name__ == "__main__":
    unittest.main()
