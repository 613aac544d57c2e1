import unittest

from tests.helpers import SECOND, ask, begin, exchanged, last, run, saying, true

START = 1000 * SECOND


def sayings(*pairs):
    """Calls by which the others 0, 1 .. say these offsets and distances."""
    return [call for number, pair in enumerate(pairs) for call in saying(number, *pair, START)]


def told(*pairs):
    return last(begin(-32), *sayings(*pairs), true(START))


class Refusals(unittest.TestCase):
    def test_before_begin(self):
        self.assertEqual(last(true(START)), [-9])
        self.assertEqual(last(begin(-33), true(START)), [-9])

    def test_nobody_has_samples(self):
        self.assertEqual(last(begin(), true(START)), [-5])
        self.assertEqual(last(begin(), *[ask(number, START) for number in range(8)], true(START)), [-5])

    def test_nobody_is_fit(self):
        calls = [call for number in range(8) for call in exchanged(number, 5, 10, START)]
        self.assertEqual(last(begin(), *calls, true(START)), [-5])
        self.assertEqual(told((5, 6442450944)), [-5])

    def test_nobody_is_fit_any_more(self):
        calls = [begin(-32)] + sayings((5, 100), (5, 100))
        self.assertEqual(last(*calls, true(START + 2 ** 63 - 1)), [-5])
        self.assertEqual(last(*calls, *[ask(0, START)] * 8, *[ask(1, START)] * 8, true(START)), [-5])
        self.assertEqual(last(*calls, begin(-32), true(START)), [-5])

    def test_two_that_cannot_be_right_together(self):
        self.assertEqual(told((0, 10), (100, 10)), [-5])

    def test_no_most_of_them(self):
        self.assertEqual(told((0, 10), (1, 10), (100, 10), (101, 10)), [-5])
        self.assertEqual(told((0, 10), (100, 10), (200, 10)), [-5])
        self.assertEqual(told(*[(0, 10)] * 4 + [(100, 10)] * 4), [-5])


class AllAgree(unittest.TestCase):
    def test_one(self):
        for offset in (0, 5, -5, 2 ** 60 - 1, 1 - 2 ** 60):
            self.assertEqual(told((offset, 100)), [1, offset - 100, offset + 100, 0])
        self.assertEqual(told((5, 6442450943)), [1, 5 - 6442450943, 5 + 6442450943, 0])

    def test_what_all_spans_contain(self):
        self.assertEqual(told((0, 10), (4, 12)), [2, -8, 10, 0])
        self.assertEqual(told((-100, 30), (-110, 20), (-90, 25)), [3, -115, -90, 0])

    def test_eight(self):
        self.assertEqual(told(*[(offset, 50) for offset in range(8)]), [8, -43, 50, 0])

    def test_offsets_on_the_ends_count(self):
        self.assertEqual(told((0, 10), (10, 40)), [2, -10, 10, 0])
        self.assertEqual(told((0, 10), (-10, 40)), [2, -10, 10, 0])

    def test_an_offset_beside_an_end(self):
        self.assertEqual(told((0, 10), (11, 40)), [-5])
        self.assertEqual(told((0, 10), (-11, 40)), [-5])

    def test_one_point_that_all_contain(self):
        self.assertEqual(told((0, 10), (20, 10), (10, 5)), [-5])
        # Two offsets lie outside, so two have to be wrong: then three contain what lies from 4 to 16.
        self.assertEqual(told((0, 10), (20, 10), (10, 5), (10, 6), (10, 7)), [3, 4, 16, 2])

    def test_only_the_fit_ones(self):
        self.assertEqual(told((0, 10), (1000, 6442450944), (4, 12)), [2, -8, 10, 0])
        calls = [begin(-32)] + sayings((0, 10), (1000, 20), (4, 12))
        self.assertEqual(last(*calls, true(START)), [2, -8, 10, 1])
        self.assertEqual(last(*calls, *[ask(1, START)] * 8, true(START)), [2, -8, 10, 0])
        self.assertEqual(last(*calls, *[ask(0, START)] * 8, true(START)), [-5])


class SomeWrong(unittest.TestCase):
    def test_one_of_three(self):
        for pairs in (((0, 10), (4, 12), (100, 10)), ((0, 10), (100, 10), (4, 12)), ((-100, 10), (0, 10), (4, 12))):
            self.assertEqual(told(*pairs), [2, -8, 10, 1])

    def test_spans_that_only_touch(self):
        # 10 is in the first two alike, but their own offsets lie outside.
        self.assertEqual(told((0, 10), (20, 10)), [-5])
        self.assertEqual(told((0, 10), (20, 10), (10, 3)), [-5])
        self.assertEqual(told((0, 10), (20, 10), (10, 10)), [3, 0, 20, 1])

    def test_the_least_low_and_the_greatest_high(self):
        # Two contain what lies from 5 to 8, and two what lies from 12 to 15; 0 and 20 are outside of 5 to 15.
        self.assertEqual(told((0, 8), (10, 5), (20, 8)), [-5])
        self.assertEqual(told((6, 8), (10, 5), (14, 8)), [3, 6, 14, 0])
        self.assertEqual(told((5, 8), (10, 5), (15, 8)), [3, 5, 15, 1])

    def test_an_offset_outside_though_all_spans_meet(self):
        # All contain -2 to 10, but 30 lies outside; two contain what lies from -8 to 16.
        self.assertEqual(told((0, 10), (4, 12), (30, 32)), [2, -8, 16, 1])

    def test_as_few_as_can_be_are_wrong(self):
        pairs = [(0, 10), (1, 10), (2, 10), (3, 10), (4, 10)]
        self.assertEqual(told(*pairs), [5, -6, 10, 0])
        self.assertEqual(told(*pairs, (100, 10)), [5, -6, 10, 1])
        self.assertEqual(told(*pairs, (100, 10), (101, 10)), [5, -6, 10, 2])
        self.assertEqual(told(*pairs, (100, 10), (101, 10), (102, 10)), [5, -6, 10, 3])

    def test_three_wrong_but_not_four(self):
        pairs = [(0, 10), (1, 10), (2, 10), (3, 10)]
        self.assertEqual(told(*pairs, (50, 10), (100, 10), (-50, 10)), [4, -7, 10, 3])
        self.assertEqual(told(*pairs, (50, 10), (100, 10), (-50, 10), (-100, 10)), [-5])

    def test_fewer_outside_than_are_left_out(self):
        # No point is in all three, yet all three offsets lie from low to high.
        self.assertEqual(told((0, 4), (5, 10), (9, 4)), [3, -4, 13, 1])

    def test_below_zero(self):
        self.assertEqual(told((-1000, 10), (-1004, 12), (1000, 10)), [2, -1010, -992, 1])


class NothingChanges(unittest.TestCase):
    def test_told_again(self):
        calls = [begin(-32)] + sayings((0, 10), (4, 12), (100, 10))
        parts = run(*calls, true(START), true(START + 10 ** 9), true(START))
        self.assertEqual(parts[-3], [2, -8, 10, 1])
        self.assertEqual(parts[-1], [2, -8, 10, 1])
        self.assertNotEqual(parts[-2], parts[-1])

    def test_at_another_time(self):
        # 15 more of dispersion in each of the eight: 17 halved and halved again is 8 + 4 + 2 + 1, not 1.
        calls = [begin(-32)] + sayings((0, 10), (4, 12))
        self.assertEqual(last(*calls, true(START + 1000000)), [2, -22, 24, 0])
