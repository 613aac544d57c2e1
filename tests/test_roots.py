import math
import unittest

from askedtime.roots import root, spread


class Roots(unittest.TestCase):
    def test_small_ones(self):
        self.assertEqual([root(square) for square in range(17)], [0, 1, 1, 1, 2, 2, 2, 2, 2] + [3] * 7 + [4])

    def test_around_every_square(self):
        for number in [*range(1, 3000), *(2 ** power + more for power in range(3, 65) for more in (-1, 0, 1))]:
            self.assertEqual(root(number * number - 1), number - 1)
            self.assertEqual(root(number * number), number)
            self.assertEqual(root(number * number + 1), number)

    def test_around_every_power_of_two(self):
        for power in range(140):
            for more in (-1, 0, 1):
                self.assertEqual(root(2 ** power + more), math.isqrt(2 ** power + more))


class Spreads(unittest.TestCase):
    def test_one_alone(self):
        for offset in (-7, 0, 2 ** 60 - 1):
            self.assertEqual(spread(offset, [offset]), 0)

    def test_by_how_many_others_there_are(self):
        self.assertEqual(spread(5, [5, 12]), 7)
        self.assertEqual(spread(5, [-2, 5]), 7)
        self.assertEqual(spread(0, [0, 3, -4]), 3)
        self.assertEqual(spread(0, [0, 7, 1]), 5)
        self.assertEqual(spread(10, [10, 10, 10, 13]), 1)
        self.assertEqual(spread(10, [10, 10, 10, 14]), 2)

    def test_as_far_as_can_be(self):
        far = 2 ** 60 - 1
        self.assertEqual(spread(far, [far] + [-far] * 7), 2 * far)
        self.assertEqual(spread(-far, [far] * 7 + [-far]), 2 * far)
