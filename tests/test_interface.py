"""How calls are handed in and answered, and what holds of the whole program."""

import contextlib
import doctest
import io
import sys
import unittest

from helper import boxes, cell, marked, read, run, solve, step, text_given
from strikesquare.square import answers

HARD = read(9, boxes(9, 3, 3), given=text_given("""
    100007090 030020008 009600500
    005300900 010080002 600004000
    300000010 040000007 007000300"""))


def refuse(*told):
    raise AssertionError("what is handed in was changed")


class Unchangeable(list):
    """A list that tells of any change, even one that is taken back."""

    append = clear = extend = insert = pop = remove = reverse = sort = refuse
    __setitem__ = __delitem__ = __iadd__ = __imul__ = refuse


def line(*calls):
    return [number for call in calls for number in call]


class Written(unittest.TestCase):
    def test_one_refused_read(self):
        self.assertEqual(answers([0, 0, 0, 0, 0, 0]), [1, -22])
        self.assertEqual(answers([0, 4294967295, 0, 0, 0, 0]), [1, -22])

    def test_each_call_by_its_numbers(self):
        calls = [0, 2, 4, 255, 255, 255, 255, 4, 0, 0, 0, 0, 4, 0, 0, 0, 0, 4, 1, 0, 0, 0,
                 2, 0,
                 2, 4,
                 1, 6,
                 1, 0,
                 3, 1,
                 1, 1,
                 3, 7,
                 2, 3]
        self.assertEqual(answers(calls), [
            1, 0,
            1, 2,
            1, -2,
            86, 1, 1, 0, 0, 2, 0, 2, 2] + [0] * 78 + [
            1, -22,
            3, 1, 1, 1,
            1, 0,
            1, -22,
            1, 2])

    def test_the_order_of_the_rows(self):
        regions, right, down, given = [0, 1, 0, 1, 1, 2, 0, 2, 2], marked(3, c1=1), marked(3, c2=2), marked(3, c8=2)
        calls = [0, 3, 9] + regions + [9] + right + [9] + down + [9] + given
        self.assertEqual(answers(calls + [1, 1])[:7], [1, 0, 86, 1, 1, 8, 0])
        self.assertEqual(answers(calls + [1, 1, 1, 2])[89:94], [86, 1, 2, 6, 0])
        rest = answers([0, 3, 9] + [255] * 9 + [9] + right + [9] + down + [9] + [0] * 9 + [1, 3, 1, 3])
        self.assertEqual([rest[3:7], rest[90:94]], [[1, 3, 1, 0], [1, 3, 2, 1]])

    def test_several_calls(self):
        calls = [read(1), read(3, right=marked(3, c0=1, c4=2)), solve(5), step(6), cell(0), read(2), cell(0)]
        found = answers(line(*calls))
        self.assertEqual(found[:8], [1, -22, 1, 0, 3, 4, 3, 0])
        self.assertEqual(found[8:13], [86, 1, 6, 0, 0])
        self.assertEqual(found[-6:], [1, 2, 1, 0, 1, 6])
        self.assertEqual(len(found), 8 + 87 + 6)

    def test_whole_numbers_in_a_list(self):
        found = answers(line(HARD, step(6), solve(6), cell(0), cell(81), step(0)))
        self.assertIs(type(found), list)
        self.assertEqual({type(number) for number in found}, {int})


class Readme(unittest.TestCase):
    def test_its_example(self):
        told = doctest.testfile("../README.md", globs={"answers": answers})
        self.assertEqual((told.failed, told.attempted), (0, 2))


class HandedIn(unittest.TestCase):
    CALLS = line(read(3, right=marked(3, c0=1, c4=2)), step(6), solve(6), read(10), cell(3), HARD, solve(6), step(6))

    def test_the_same_afterwards(self):
        calls = list(self.CALLS)
        answers(calls)
        self.assertEqual(calls, self.CALLS)

    def test_not_changed_for_a_while_either(self):
        self.assertEqual(answers(Unchangeable(self.CALLS)), answers(self.CALLS))

    def test_a_changed_answer_changes_no_later_one(self):
        first = answers(list(self.CALLS))
        kept = list(first)
        first.clear()
        self.assertEqual(answers(list(self.CALLS)), kept)


class NothingKept(unittest.TestCase):
    def test_a_second_time(self):
        for calls in (line(HARD, solve(6)), line(read(2, given=[1, 1, 0, 0]), step(1)), line(read(0))):
            first = answers(calls)
            answers(line(read(4), solve(6)))
            self.assertEqual(answers(calls), first)

    def test_nothing_is_printed(self):
        out, err = io.StringIO(), io.StringIO()
        with contextlib.redirect_stdout(out), contextlib.redirect_stderr(err):
            answers(line(HARD, solve(6), step(6), cell(100), read(10)))
        self.assertEqual((out.getvalue(), err.getvalue()), ("", ""))


class Long(unittest.TestCase):
    def test_a_thousand_calls(self):
        found = run(HARD, *[step(6)] * 40, *[solve(6), cell(3), step(5)] * 319, step(6), step(7))
        self.assertEqual(len(found), 1000)
        self.assertEqual(found[-3:], [[0], [0], [-22]])

    def test_as_many_numbers_as_may_be(self):
        found = run(*[HARD] * 90, *[cell(k) for k in range(90)])
        self.assertEqual(found[:90], [[0]] * 90)

    def test_few_calls_within_one_another(self):
        calls = line(*[HARD, solve(6)] * 3, *[step(6)] * 300)
        depth, frame = 0, sys._getframe()
        while frame:
            depth, frame = depth + 1, frame.f_back
        limit = sys.getrecursionlimit()
        sys.setrecursionlimit(depth + 40)
        try:
            found = answers(calls)
        finally:
            sys.setrecursionlimit(limit)
        self.assertEqual(found[-2:], [1, 0])


if __name__ == "__main__":
    unittest.main()
