"""Calls 8 and 9: whether an ideal has a number, and whether it's made of that alone."""

import random
import unittest
from itertools import product as places_of

from tests import oracle
from tests.support import MOST, answered, drop, flat_rows, has, ideal, joined, last, made, making, ring, told

OF_A_NUMBER = (has, made)
RINGS = [(1, 0), (5, 0), (3, 0), (-2, 0), (-2, 0, 0), (7, -20, 3), (1, 0, 0, 0), (3, 3, 0, -3)]


class HasTest(unittest.TestCase):
    def check(self, start, made_of, numbers, expected):
        found = answered(start, ideal(*made_of), *[has(0, *number) for number in numbers])
        self.assertEqual(found[2:], [[expected]] * len(numbers))

    def test_worked(self):
        self.check(ring(5, 0), [2, 0, 1, 1], [[2, 0], [1, 1], [1, -1], [0, 2], [-3, 5], [100, -100]], 1)
        self.check(ring(5, 0), [2, 0, 1, 1], [[1, 0], [0, 1], [-1, 2], [99, 100]], 0)
        self.check(ring(-2, 0, 0), [1, 1, 0], [[3, 0, 0], [1, 1, 0], [0, 1, 1], [-3, 0, 0], [1, 0, -1]], 1)
        self.check(ring(-2, 0, 0), [1, 1, 0], [[1, 0, 0], [0, 1, 0], [0, 0, 1], [2, 1, 0], [-1, 0, 2]], 0)
        self.check(ring(1, 0, 0, 0), [1, 1, 0, 0], [[2, 0, 0, 0], [1, 0, 0, 1], [0, 1, 0, -1], [1, 1, 1, 1]], 1)
        self.check(ring(1, 0, 0, 0), [1, 1, 0, 0], [[1, 0, 0, 0], [0, 0, 0, 1], [1, -1, 0, 1], [99, 0, 0, 0]], 0)

    def test_ring_at_the_beginning(self):
        self.assertEqual(answered(ideal(2, 1), has(0, 5, 0), has(0, -1, 2), has(0, 2, -1)), [[0], [1], [1], [0]])

    def test_every_ideal_has_0(self):
        for coefficients in RINGS:
            zeros = [0] * len(coefficients)
            found = answered(ring(*coefficients), ideal(*zeros[1:], 7), ideal(1, *zeros[1:]), has(0, *zeros),
                             has(1, *zeros))
            self.assertEqual(found[3:], [[1], [1]])

    def test_whole_ring_has_all(self):
        self.check(ring(5, 0), [1, 0], [[1, 0], [0, 1], [0, 0], [-100, 99], [100, -100]], 1)
        self.check(ring(1, 0, 0, 0), [0, 1, 0, 0], [[1, 0, 0, 0], [0, 0, 0, 1], [-100, 99, 98, -97]], 1)

    def test_places_of_a_hundred(self):
        self.check(ring(5, 0), [50, 0], [[100, -100], [-100, 100], [0, 100]], 1)
        self.check(ring(5, 0), [99, 0], [[100, -100], [-100, 100], [0, 100]], 0)

    def test_of_a_norm_of_ten_to_the_twelve(self):
        self.check(ring(-6, 4, -1, -18), [-100, 100, -100, 100],
                   [[-100, 100, -100, 100], [100, -100, 100, -100], [0, 0, 0, 0]], 1)
        self.check(ring(-6, 4, -1, -18), [-100, 100, -100, 100],
                   [[-100, 100, -100, 99], [1, 0, 0, 0], [50, -50, 50, -50], [100, 100, 100, 100]], 0)

    def test_against_the_words(self):
        choices = random.Random(71)
        for coefficients, m in [((5, 0), 12), ((-3, 1), 30), ((20, -20), 18), ((-2, 0, 0), 10), ((4, -7, 3), 8),
                                ((1, 0, 0, 0), 4), ((5, 10, 0, -20), 6)]:
            width = len(coefficients)
            for _ in range(8):
                numbers = [[choices.randint(-100, 100) for _ in range(width)] for _ in range(choices.randint(0, 2))]
                numbers.append([m] + [0] * (width - 1))
                whole = oracle.made_of(coefficients, numbers, m)
                asked = [[choices.randint(-100, 100) for _ in range(width)] for _ in range(15)]
                asked += [[a - m * choices.randint(0, 1) for a in x] for x in choices.choices(sorted(whole), k=2)]
                found = answered(ring(*coefficients), ideal(*joined(numbers)), *[has(0, *x) for x in asked])
                expected = [[int(tuple(a % m for a in x) in whole)] for x in asked]
                self.assertEqual(found[2:], expected, (coefficients, numbers))


class MadeTest(unittest.TestCase):
    def check(self, start, made_of, numbers, expected):
        found = answered(start, ideal(*made_of), *[made(0, *number) for number in numbers])
        self.assertEqual(found[2:], [[expected]] * len(numbers))

    def test_made_of_one_number(self):
        self.check(ring(5, 0), [1, 1], [[1, 1], [-1, -1]], 1)
        self.check(ring(5, 0), [1, 1], [[1, -1], [6, 0], [2, 2], [1, 0], [-5, 1]], 0)
        self.check(ring(1, 1), [1, -1], [[1, -1], [-1, 1], [1, 2], [2, 1], [-1, -2]], 1)
        self.check(ring(-2, 0), [3, 1], [[3, 1], [5, 4], [13, 9], [-1, 2], [1, -2]], 1)
        self.check(ring(-2, 0), [3, 1], [[3, -1], [7, 0], [1, 3], [1, 1]], 0)
        self.check(ring(-2, 0, 0), [1, 1, 0], [[1, 1, 0], [-1, -1, 0], [-1, 0, 1]], 1)
        self.check(ring(-2, 0, 0), [1, 1, 0], [[1, 0, 1], [3, 0, 0], [0, 1, 1]], 0)
        self.check(ring(1, 0, 0, 0), [1, 1, 0, 0], [[1, 1, 0, 0], [0, 1, 1, 0], [1, 0, 0, -1], [1, -1, 0, 0]], 1)
        self.check(ring(1, 0, 0, 0), [1, 1, 0, 0], [[1, 0, 1, 0], [2, 0, 0, 0], [1, 0, 0, 0]], 0)

    def test_made_of_several_and_yet_of_one(self):
        self.check(ring(5, 0), [12, 0, 20, 0, 0, 8], [[4, 0], [-4, 0]], 1)
        self.check(ring(1, 0), [5, 0, 3, 1], [[2, -1], [-2, 1], [1, 2], [-1, -2]], 1)
        self.check(ring(1, 0), [5, 0, 3, 1], [[2, 1], [5, 0], [3, 1]], 0)

    def test_ring_at_the_beginning(self):
        self.assertEqual(answered(ideal(2, 1), made(0, -1, 2), made(0, 1, 2), made(0, 2, 1)), [[0], [1], [0], [1]])

    def test_made_of_none_alone(self):
        for places in ([2, 0, 1, 1], [3, 0, 1, 1]):
            for start in range(-10, 11):
                numbers = [[start, second] for second in range(-10, 11)]
                self.check(ring(5, 0), places, numbers, 0)

    def test_whole_ring(self):
        self.check(ring(-2, 0), [2, 0, 3, 0], [[1, 0], [-1, 0], [1, 1], [-1, 1], [7, 5], [99, 70]], 1)
        self.check(ring(-2, 0), [2, 0, 3, 0], [[2, 0], [0, 1], [2, 1], [99, 71]], 0)

    def test_of_0_alone_no_ideal_is_made(self):
        for coefficients in RINGS:
            zeros = [0] * len(coefficients)
            found = answered(ring(*coefficients), ideal(*zeros[1:], 7), ideal(1, *zeros[1:]), made(0, *zeros),
                             made(1, *zeros), has(0, *zeros))
            self.assertEqual(found[3:], [[0], [0], [1]])

    def test_places_of_a_hundred(self):
        self.check(ring(5, 0), [100, 0], [[100, 0], [-100, 0]], 1)
        self.check(ring(5, 0), [100, 0], [[0, 100], [100, 100], [99, 0]], 0)
        self.check(ring(-6, 4, -1, -18), [-100, 100, -100, 100], [[-100, 100, -100, 100], [100, -100, 100, -100]], 1)

    def test_of_a_number_whose_own_ideal_could_not_be_kept(self):
        start = ring(20, -20, 20, -20)
        self.assertEqual(answered(start, ideal(100, 0, 0, 100), ideal(1, 0, 0, 0), made(0, 100, 0, 0, 100)),
                         [[0], [-8], [0], [0]])

    def test_against_the_words(self):
        # It's the one made of a number just if it has it and is as large as what's made of it.
        for coefficients, m, span in [((1, 0), 10, 4), ((5, 0), 6, 4), ((-2, 0), 7, 4), ((-2, 0, 0), 3, 2),
                                      ((1, 0, 0, 0), 2, 1)]:
            width = len(coefficients)
            numbers = list(places_of(range(-span, span + 1), repeat=width))
            for whole in oracle.ideals_that_have(coefficients, m):
                calls, i = making(oracle.rows_of(whole, width, m))
                norm = oracle.norm_of_set(whole, width, m)
                for start in range(0, len(numbers), 36):
                    part = numbers[start:start + 36]
                    found = answered(ring(*coefficients), *calls, *[made(i, *x) for x in part])
                    makers = [tuple(a % m for a in x) in whole and oracle.norm_of_number(coefficients, x) == norm
                              for x in part]
                    self.assertEqual(found[-len(part):], [[int(is_so)] for is_so in makers], (coefficients, whole))


class RefusalTest(unittest.TestCase):
    def test_none_such(self):
        for call in OF_A_NUMBER:
            found = answered(call(0, 2, 0), call(MOST, 2, 0), ideal(2, 0), call(1, 2, 0), call(MOST, 2, 0),
                             call(0, 2, 0))
            self.assertEqual(found, [[-2], [-2], [0], [-2], [-2], [1]])
            self.assertEqual(last(ideal(2, 0), ring(5, 0), call(0, 2, 0)), [-2])
            self.assertEqual(last(ideal(2, 0), ideal(3, 0), drop(), call(1, 3, 0)), [-2])

    def test_too_few_and_too_many_places(self):
        for call in OF_A_NUMBER:
            for coefficients in [(5, 0), (-2, 0, 0), (1, 0, 0, 0)]:
                width = len(coefficients)
                for count in range(7):
                    places = [2, 0, 0, 0, 0, 0][:count]
                    found = answered(ring(*coefficients), ideal(2, *[0] * (width - 1)), call(0, *places), told(1))
                    self.assertEqual(found[2:], [[1] if count == width else [-1], [-2]], (width, count))

    def test_places_of_a_hundred_and_one(self):
        for call in OF_A_NUMBER:
            wrong = [[101, 0], [-101, 0], [0, 101], [0, -101], [MOST, 0], [0, -MOST], [101, -101]]
            found = answered(ideal(1, 0), *[call(0, *places) for places in wrong])
            self.assertEqual(found, [[0]] + [[-1]] * len(wrong))
            self.assertEqual(last(ring(-2, 0, 0), ideal(1, 0, 0), call(0, 0, 0, 101)), [-1])
            self.assertEqual(last(ring(1, 0, 0, 0), ideal(1, 0, 0, 0), call(0, 0, 0, 0, -101)), [-1])

    def test_none_such_is_told_ahead_of_wrong_places(self):
        wrong = [[], [2], [2, 0, 0], [101, 0], [0, -101], [0] * 6, [MOST] * 6]
        for call in OF_A_NUMBER:
            calls = [call(i, *places) for places in wrong for i in (1, MOST, 0)]
            self.assertEqual(answered(ideal(2, 0), *calls), [[0]] + [[-2], [-2], [-1]] * len(wrong))
            self.assertEqual(answered(call(0)), [[-2]])

    def test_changes_nothing(self):
        for call in OF_A_NUMBER:
            asked = [call(0, 2, 0), call(0, 1, 1), call(0, 0, 0), call(0), call(0, 101, 0), call(1, 2, 0)]
            found = answered(ring(5, 0), ideal(2, 0, 1, 1), *asked, told(0), told(1), ideal(3, 0))
            self.assertEqual(found[8:], [flat_rows([2, 0], [1, 1]), [-2], [1]])


if __name__ == "__main__":
    unittest.main()
