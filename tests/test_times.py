import unittest

from askedtime.times import age, is_precision, less, part_of_second


class Times(unittest.TestCase):
    def test_less_within_a_round(self):
        self.assertEqual(less(5, 3), 2)
        self.assertEqual(less(3, 5), -2)
        self.assertEqual(less(7, 7), 0)

    def test_less_goes_round(self):
        self.assertEqual(less(0, 2 ** 64 - 1), 1)
        self.assertEqual(less(2 ** 64 - 1, 0), -1)
        self.assertEqual(less(3, 2 ** 64 - 4), 7)

    def test_less_at_half_a_round(self):
        self.assertEqual(less(2 ** 63 - 1, 0), 2 ** 63 - 1)
        self.assertEqual(less(2 ** 63, 0), -2 ** 63)
        self.assertEqual(less(0, 2 ** 63), -2 ** 63)
        self.assertEqual(less(0, 2 ** 63 + 1), 2 ** 63 - 1)

    def test_age_is_rounded_down(self):
        self.assertEqual(age(66666), 0)
        self.assertEqual(age(66667), 1)
        self.assertEqual(age(1000000), 15)
        self.assertEqual(age(2 ** 63 - 1), 138350580552821)

    def test_no_age_below_nought(self):
        self.assertEqual([age(0), age(-1), age(-1000000), age(-2 ** 63)], [0, 0, 0, 0])

    def test_part_of_second(self):
        self.assertEqual(part_of_second(0), 2 ** 32)
        self.assertEqual(part_of_second(-1), 2 ** 31)
        self.assertEqual(part_of_second(-31), 2)
        self.assertEqual(part_of_second(-32), 1)

    def test_is_precision(self):
        self.assertEqual([is_precision(p) for p in (-33, -32, -1, 0, 1)], [False, True, True, True, False])
