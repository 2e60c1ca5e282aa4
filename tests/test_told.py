"""Call 6: an ideal told by its rows."""

import random
import unittest

from tests.support import MOST, answered, flat_rows, ideal, last, product, ring, rows_in, told

RINGS = [(1, 0), (20, 20), (-2, 0, 0), (7, -20, 3), (1, 0, 0, 0), (3, -20, 20, 17)]


class ToldTest(unittest.TestCase):
    def test_rows_of_each_ideal(self):
        found = answered(ring(5, 0), ideal(2, 0, 1, 1), ideal(3, 0, 1, -1), ideal(-1, 0), told(0), told(1), told(2))
        self.assertEqual(found[4:], [[0, 2, 0, 1, 1], [0, 3, 0, 2, 1], [0, 1, 0, 0, 1]])

    def test_rows_have_no_length_ahead(self):
        for coefficients in RINGS:
            width = len(coefficients)
            one = [1] + [0] * (width - 1)
            units = [[int(i == j) for j in range(width)] for i in range(width)]
            self.assertEqual(last(ring(*coefficients), ideal(*one), told(0)), flat_rows(*units))

    def test_form_of_rows(self):
        choices = random.Random(51)
        for coefficients in RINGS:
            width = len(coefficients)
            for _ in range(20):
                places = [choices.randint(-40, 40) for _ in range(width)]
                rows = rows_in(last(ring(*coefficients), ideal(*places), told(0)), width)
                for i, row in enumerate(rows):
                    self.assertGreater(row[i], 0)
                    self.assertEqual(row[i + 1:], [0] * (width - 1 - i))
                    self.assertTrue(all(0 <= row[j] < rows[j][j] for j in range(i)), rows)

    def test_same_rows_however_it_is_made(self):
        calls = [ideal(1, 1, 2, 0), ideal(2, 0, 3, -1), ideal(2, 0, 4, 2, -1, 1), ideal(-5, 7, 4, 0)]
        found = answered(ring(5, 0), *calls, *[told(i) for i in range(4)])
        self.assertEqual(found[5:], [flat_rows([2, 0], [1, 1])] * 4)

    def test_telling_changes_nothing(self):
        found = answered(ring(5, 0), ideal(7, 3), told(0), told(0), product(0, 0), told(0), told(1), told(1))
        self.assertEqual(found[2], found[3])
        self.assertEqual(found[2], found[5])
        self.assertEqual(found[6], found[7])

    def test_none_such(self):
        self.assertEqual(answered(told(0), told(MOST), ideal(2, 0), told(1), told(MOST), told(0)),
                         [[-2], [-2], [0], [-2], [-2], flat_rows([2, 0], [0, 2])])


if __name__ == "__main__":
    unittest.main()
