"""Call 13: the last ideal isn't any more."""

import unittest

from tests.support import (MOST_CALLS, answered, by, common, drop, flat_rows, has, holds, ideal, made, norm, prime,
                           product, ring, sum_of, told)


class DropTest(unittest.TestCase):
    def test_how_many_are_left(self):
        self.assertEqual(answered(ideal(2, 0), ideal(3, 0), ideal(5, 0), drop(), drop(), drop())[3:], [[2], [1], [0]])

    def test_none_left(self):
        self.assertEqual(answered(drop(), drop()), [[-4], [-4]])
        self.assertEqual(answered(ideal(2, 0), drop(), drop(), drop())[1:], [[0], [-4], [-4]])
        self.assertEqual(answered(ideal(2, 0), ring(5, 0), drop())[1:], [[0], [-4]])
        self.assertEqual(answered(*[drop()] * MOST_CALLS), [[-4]] * MOST_CALLS)

    def test_none_left_changes_nothing(self):
        found = answered(ring(5, 0), drop(), ideal(0, 1), told(0), drop(), drop(), ideal(0, 1), told(0))
        self.assertEqual(found[1:], [[-4], [0], flat_rows([5, 0], [0, 1]), [0], [-4], [0], flat_rows([5, 0], [0, 1])])

    def test_only_the_last_one_is_not_any_more(self):
        found = answered(ring(5, 0), ideal(2, 0), ideal(3, 0), ideal(7, 0), drop(), told(0), told(1), told(2))
        self.assertEqual(found[4:], [[2], flat_rows([2, 0], [0, 2]), flat_rows([3, 0], [0, 3]), [-2]])

    def test_no_call_finds_it(self):
        calls = [sum_of(0, 1), product(1, 0), common(1, 1), by(0, 1), told(1), norm(1), has(1, 3, 0), made(1, 3, 0),
                 holds(0, 1), holds(1, 0), prime(1)]
        found = answered(ideal(2, 0), ideal(3, 0), drop(), *calls)
        self.assertEqual(found[3:], [[-2]] * len(calls))

    def test_kept_behind_a_drop(self):
        found = answered(ring(5, 0), ideal(2, 0), ideal(3, 0), drop(), ideal(7, 0), told(1), drop(), sum_of(0, 0),
                         told(1), told(2))
        self.assertEqual(found[3:], [[1], [1], flat_rows([7, 0], [0, 7]), [1], [1], flat_rows([2, 0], [0, 2]), [-2]])

    def test_each_call_that_keeps_gets_the_free_number(self):
        for call in (ideal(1, 2), sum_of(0, 1), product(0, 1), common(0, 1), by(0, 1)):
            found = answered(ideal(2, 0), ideal(3, 0), ideal(5, 0), drop(), call, call, drop(), drop(), call)
            self.assertEqual(found[3:], [[2], [2], [3], [3], [2], [2]])

    def test_behind_a_refusal(self):
        start = [ring(5, 0), ideal(2, 0), ideal(3, 0)]
        for refused in (ring(0, 0), ring(), ideal(), ideal(0, 0), ideal(101, 0), told(2), norm(2), has(0), made(2),
                        holds(0, 2), product(0, 2)):
            found = answered(*start, refused, drop(), told(0), told(1))
            self.assertLess(found[3][0], 0)
            self.assertEqual(found[4:], [[1], flat_rows([2, 0], [0, 2]), [-2]])

    def test_behind_an_ideal_that_was_not_kept(self):
        found = answered(ring(20, -20, 20, -20), ideal(2, 0, 0, 0), ideal(100, 0, 0, 100), drop(), drop())
        self.assertEqual(found[1:], [[0], [-8], [0], [-4]])

    def test_eight_ideals_a_drop_and_one_kept_again(self):
        fill = [ideal(2, 0)] * 8
        found = answered(*fill, ideal(3, 0), drop(), ideal(3, 0), told(7), ideal(3, 0), drop(), product(0, 0), told(7),
                         product(0, 0))
        self.assertEqual(found[8:], [[-5], [7], [7], flat_rows([3, 0], [0, 3]), [-5], [7], [7],
                                     flat_rows([4, 0], [0, 4]), [-5]])

    def test_eight_ideals_and_all_dropped(self):
        found = answered(*[ideal(2, 0)] * 8, *[drop()] * 9, ideal(2, 0))
        self.assertEqual(found[8:], [[7], [6], [5], [4], [3], [2], [1], [0], [-4], [0]])

    def test_what_was_made_of_it_stays(self):
        found = answered(ring(5, 0), ideal(2, 0), product(0, 0), drop(), ideal(3, 0), sum_of(0, 1), drop(), drop(),
                         told(0))
        self.assertEqual(found[3:], [[1], [1], [2], [2], [1], flat_rows([2, 0], [0, 2])])
        found = answered(ideal(2, 0), sum_of(0, 0), drop(), told(0), drop(), ideal(3, 0), told(0))
        self.assertEqual(found[2:], [[1], flat_rows([2, 0], [0, 2]), [0], [0], flat_rows([3, 0], [0, 3])])

    def test_ring_stays(self):
        found = answered(ring(-2, 0, 0), ideal(2, 0, 0), drop(), ideal(2, 0), ideal(0, 1, 0), norm(0))
        self.assertEqual(found[2:], [[0], [-1], [0], [0, 2]])


if __name__ == "__main__":
    unittest.main()
