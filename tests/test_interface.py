"""The whole: the flat list that is handed in, and the one that is given back."""

import contextlib
import inspect
import io
import subprocess
import sys
import unittest
from pathlib import Path

import idealrows.ring
from idealrows.ring import answers
from tests.support import (MOST, MOST_CALLS, all_of_norm, answered, by, common, drop, flat_rows, has, holds, ideal,
                           made, norm, prime, product, ring, sum_of, told)

ROOT = Path(__file__).resolve().parent.parent

CALLS = [ring(5, 0), ideal(2, 0, 1, 1), ideal(3, 0, 1, 1), sum_of(0, 1), product(0, 1), common(0, 1), by(0, 1),
         told(3), ring(1, 0, 0), ideal(), ideal(0, 0), told(9), ring(), told(0), norm(3), has(1, 1, 1), has(2, 0, 0),
         made(3, 1, 1), made(3, 0, 0), has(0), made(9), holds(0, 3), holds(3, 0), prime(0), prime(3), all_of_norm(3),
         all_of_norm(13), all_of_norm(0), drop(), norm(5)]
FLAT = [number for call in CALLS for number in call]
ANSWERS = [1, 0, 1, 0, 1, 1, 1, 2, 1, 3, 1, 4, 1, 5, 5, 0, 6, 0, 1, 1, 1, -3, 1, -1, 1, -3, 1, -2, 1, -1,
           5, 0, 2, 0, 1, 1, 2, 0, 6, 1, 1, 1, 1, 1, 1, 1, 0, 1, -1, 1, -2, 1, 1, 1, 0, 1, 1, 1, 0,
           9, 2, 3, 0, 1, 1, 3, 0, 2, 1, 1, 0, 1, -1, 1, 5, 1, -2]


class Untouched(list):
    """A list that tells whoever changes it, if only for a while."""


def refuse(*arguments, **more):
    raise AssertionError("the list that was handed in was changed")


for name in ("append", "clear", "extend", "insert", "pop", "remove", "reverse", "sort", "__delitem__", "__iadd__",
             "__imul__", "__setitem__"):
    setattr(Untouched, name, refuse)


class FlatListTest(unittest.TestCase):
    def test_each_answer_has_its_length_ahead(self):
        self.assertEqual(answers(FLAT), ANSWERS)
        self.assertEqual(answers([6, 0]), [1, -2])
        self.assertEqual(answers([0, 0]), [1, -1])
        self.assertEqual(answers([1, 3, 1, 2, 3, 1, 2, 0, 3, 6, 0]), [1, -1, 1, 0, 5, 0, 3, 0, 0, 3])
        self.assertEqual(answers([13]), [1, -4])
        self.assertEqual(answers([1, 2, 1, 1, 7, 0, 8, 0, 2, 1, 0, 9, 0, 2, 1, -1, 10, 0, 0, 11, 0, 12, 2, 13]),
                         [1, 0, 2, 0, 2, 1, 0, 1, 1, 1, 1, 1, 1, 5, 1, 2, 0, 1, 1, 1, 0])

    def test_places_that_are_refused_are_passed_over_whole(self):
        for places in ([], [11], [13, 13, 13], [6] * 6):
            for call in (has, made):
                self.assertEqual(answered(call(0, *places), ideal(3, 0), call(0, *places), norm(0)),
                                 [[-2], [0], [-1], [0, 9]])

    def test_kinds(self):
        found = answers(FLAT)
        self.assertIs(type(found), list)
        self.assertEqual({type(number) for number in found}, {int})

    def test_interface(self):
        self.assertEqual(list(inspect.signature(answers).parameters), ["calls"])
        self.assertEqual(answers.__module__, "idealrows.ring")
        self.assertIs(idealrows.ring.answers, answers)

    def test_forty_calls(self):
        calls = [ideal(2, 0)] * 8 + [told(i % 9) for i in range(MOST_CALLS - 8)]
        expected = [flat_rows([2, 0], [0, 2]) if i % 9 < 8 else [-2] for i in range(MOST_CALLS - 8)]
        self.assertEqual(answered(*calls)[8:], expected)
        self.assertEqual(answered(*[ring(5, 0)] * MOST_CALLS), [[0]] * MOST_CALLS)

    def test_forty_calls_of_the_longest(self):
        calls = [ring(20, -20, 20, -20)] + [ideal(*[100] * 14)] * 4 + [ideal(*[99, -100, 98, -97] * 3)] * 35
        found = answered(*calls)
        self.assertEqual(found[:5], [[0], [-1], [-1], [-1], [-1]])
        self.assertEqual(found[5:13], [[number] for number in range(8)])
        self.assertEqual(found[13:], [[-5]] * 27)

    def test_largest_numbers(self):
        calls = [ring(*[MOST] * 6), ring(*[-MOST] * 6), ring(MOST, -MOST), ideal(*[MOST] * 14), ideal(MOST, 0),
                 ideal(-MOST, -MOST), sum_of(MOST, MOST), product(MOST, 0), common(0, MOST), by(MOST, MOST), told(MOST)]
        self.assertEqual(answered(*calls), [[-1]] * 6 + [[-2]] * 5)
        calls = [norm(MOST), has(MOST, *[MOST] * 6), made(MOST, *[-MOST] * 6), holds(MOST, MOST), prime(MOST),
                 all_of_norm(MOST), ideal(2, 0), has(0, MOST, -MOST), made(0, *[MOST] * 6)]
        self.assertEqual(answered(*calls), [[-2]] * 5 + [[-1], [0], [-1], [-1]])

    def test_what_is_handed_in_is_not_changed(self):
        handed = Untouched(FLAT)
        self.assertEqual(answers(handed), ANSWERS)
        self.assertEqual(list(handed), FLAT)

    def test_what_is_given_back_is_no_ones_else(self):
        first = answers(FLAT)
        first.clear()
        self.assertEqual(answers(FLAT), ANSWERS)

    def test_nothing_is_kept_from_one_time_to_the_next(self):
        self.assertEqual(answers([0, 2, 5, 0, 1, 2, 2, 0]), [1, 0, 1, 0])
        self.assertEqual(answered(told(0), ideal(1, 1), told(0)), [[-2], [0], flat_rows([2, 0], [1, 1])])
        self.assertEqual(answered(drop(), norm(0), all_of_norm(5)), [[-4], [-2], [2, 5, 0, 2, 1, 5, 0, 3, 1]])
        for _ in range(3):
            self.assertEqual(answers(FLAT), ANSWERS)

    def test_refusals_stand_alone_and_change_nothing(self):
        start = [ring(5, 0), ideal(2, 0, 1, 1), ideal(3, 0, 1, 1)]
        refused = [ring(), ring(1), ring(0, 0), ring(0, 21), ideal(), ideal(1), ideal(0, 0), ideal(0, 101), told(2),
                   sum_of(0, 2), product(2, 0), common(2, 2), by(0, MOST), norm(2), has(2, 1, 1), has(0),
                   has(0, 101, 0), made(2, 1, 1), made(1, 1, 1, 1), made(1, 0, -101), holds(0, 2), holds(2, 0),
                   prime(2), all_of_norm(0), all_of_norm(31)]
        after = [told(0), told(1), product(0, 1), told(2), ideal(0, 1), told(3), norm(3), drop(), drop(), drop()]
        found = answered(*start, *refused, *after)
        answers_to_refused = found[len(start):len(start) + len(refused)]
        self.assertTrue(all(len(answer) == 1 and answer[0] < 0 for answer in answers_to_refused))
        self.assertEqual(found[len(start) + len(refused):], answered(*start, *after)[len(start):])

    def test_asking_changes_nothing(self):
        start = [ring(5, 0), ideal(2, 0, 1, 1), ideal(3, 0, 1, 1), product(0, 1)]
        asked = [told(2), norm(0), has(1, 3, 0), has(1, 1, 0), made(2, 1, 1), made(0, 0, 0), holds(0, 2), holds(2, 0),
                 prime(1), prime(2), all_of_norm(6), all_of_norm(13)]
        after = [told(0), told(1), told(2), ideal(0, 1), told(3), all_of_norm(6), drop()]
        found = answered(*start, *asked, *asked, *after)
        self.assertEqual(found[len(start):len(start) + len(asked)], found[len(start) + len(asked):-len(after)])
        self.assertEqual(found[-len(after):], answered(*start, *after)[len(start):])


class ApartTest(unittest.TestCase):
    def test_nothing_is_printed(self):
        printed = io.StringIO()
        with contextlib.redirect_stdout(printed), contextlib.redirect_stderr(printed):
            answers(FLAT)
        self.assertEqual(printed.getvalue(), "")

    def test_nothing_is_imported_from_outside(self):
        program = "\n".join([
            "import sys",
            "before = set(sys.modules)",
            "from idealrows.ring import answers",
            "answers(" + repr(FLAT) + ")",
            "print(sorted(name for name in set(sys.modules) - before if name.split('.')[0] != 'idealrows'))",
        ])
        done = subprocess.run([sys.executable, "-c", program], cwd=ROOT, capture_output=True, text=True, check=True)
        self.assertEqual((done.stdout, done.stderr), ("[]\n", ""))


if __name__ == "__main__":
    unittest.main()
