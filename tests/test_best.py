import unittest

from tests.helpers import SECOND, ask, begin, best, exchanged, last, run, saying, true

START = 1000 * SECOND


def sayings(*rows):
    """Calls by which the others 0, 1 .. say these: offset, distance, and if told jitter, stratum."""
    calls = []
    for number, row in enumerate(rows):
        fields = dict(zip(("jitter", "stratum"), row[2:]))
        calls += saying(number, row[0], row[1], START, **fields)
    return calls


def told(*rows):
    return last(begin(-32), *sayings(*rows), best(START))


class Refusals(unittest.TestCase):
    def test_before_begin(self):
        self.assertEqual(last(best(START)), [-9])
        self.assertEqual(last(begin(1), best(START)), [-9])

    def test_nobody_has_samples(self):
        self.assertEqual(last(begin(), best(START)), [-5])
        self.assertEqual(last(begin(), ask(0, START), best(START)), [-5])

    def test_nobody_is_fit(self):
        calls = [call for number in range(8) for call in exchanged(number, 5, 10, START)]
        self.assertEqual(last(begin(), *calls, best(START)), [-5])
        self.assertEqual(told((5, 6442450944)), [-5])
        self.assertEqual(last(begin(-32), *sayings((5, 100)), *[ask(0, START)] * 8, best(START)), [-5])

    def test_most_cannot_be_right_together(self):
        self.assertEqual(told((0, 10), (100, 10)), [-5])
        self.assertEqual(told((0, 10), (1, 10), (100, 10), (101, 10)), [-5])


class Weighing(unittest.TestCase):
    def test_one(self):
        for offset in (0, 1, -1, 77, 2 ** 60 - 1, 1 - 2 ** 60):
            self.assertEqual(told((offset, 100)), [1, offset])
        self.assertEqual(told((-5, 6442450943)), [1, -5])

    def test_two_at_one_distance(self):
        self.assertEqual(told((0, 100), (10, 100)), [2, 5])
        self.assertEqual(told((0, 100), (11, 100)), [2, 5])
        self.assertEqual(told((0, 100), (-10, 100)), [2, -5])

    def test_the_nearer_weighs_more(self):
        # (0 / 100 + 30 / 200) / (1 / 100 + 1 / 200) is 10.
        self.assertEqual(told((0, 100), (30, 200)), [2, 10])
        self.assertEqual(told((30, 100), (0, 200)), [2, 20])
        self.assertEqual(told((0, 200), (30, 100)), [2, 20])

    def test_rounded_down(self):
        self.assertEqual(told((0, 100), (31, 200)), [2, 10])
        self.assertEqual(told((0, 100), (32, 200)), [2, 10])
        self.assertEqual(told((0, 100), (33, 200)), [2, 11])

    def test_rounded_down_below_zero(self):
        self.assertEqual(told((0, 100), (-1, 100)), [2, -1])
        self.assertEqual(told((0, 100), (-11, 100)), [2, -6])
        self.assertEqual(told((0, 100), (-30, 200)), [2, -10])
        self.assertEqual(told((0, 100), (-31, 200)), [2, -11])

    def test_rounded_at_the_end_alone(self):
        # o / d would be 0 each, and so would 1 / d.
        self.assertEqual(told((3, 7), (4, 11)), [2, (3 * 11 + 4 * 7) // 18])
        self.assertEqual(told((6, 1000), (9, 1000), (9, 1000)), [3, 8])
        self.assertEqual(told((-6, 1000), (-9, 1000), (-9, 1000)), [3, -8])

    def test_three(self):
        # (10 / 100 + 16 / 200 + 22 / 300) / (1 / 100 + 1 / 200 + 1 / 300) is 152 / 11.
        self.assertEqual(told((10, 100), (16, 200), (22, 300)), [3, 13])
        self.assertEqual(told((-10, 100), (-16, 200), (-22, 300)), [3, -14])

    def test_three_stay_however_far_apart(self):
        self.assertEqual(told((0, 10 ** 9), (0, 10 ** 9), (3 * 10 ** 8, 10 ** 9)), [3, 10 ** 8])

    def test_great_numbers_exactly(self):
        far = 2 ** 60 - 1
        d = 6442450943
        self.assertEqual(told((far, d), (far - d, d)), [2, far - 3221225472])
        self.assertEqual(told((far, d), (far, d - 1), (far - 7, d - 2)), [3, far - 3])


class WhoIsTrue(unittest.TestCase):
    def test_those_outside_are_not_weighed(self):
        self.assertEqual(told((0, 100), (10, 100), (900, 10)), [2, 5])
        self.assertEqual(told((900, 10), (0, 100), (10, 100)), [2, 5])
        self.assertEqual(told((0, 100), (10, 100), (20, 100), (-900, 10), (900, 10)), [3, 10])

    def test_one_that_is_wrong_but_within_is_weighed(self):
        # No point is in all three, but no offset lies outside.
        self.assertEqual(last(begin(-32), *sayings((0, 4), (5, 10), (9, 4)), true(START)), [3, -4, 13, 1])
        self.assertEqual(told((0, 4), (5, 10), (9, 4)), [3, 4])

    def test_offsets_on_the_ends(self):
        self.assertEqual(told((0, 10), (10, 40)), [2, 2])
        self.assertEqual(told((0, 10), (-10, 40)), [2, -2])

    def test_those_not_fit_are_not_weighed(self):
        self.assertEqual(told((0, 100), (10, 100), (90, 6442450944)), [2, 5])
        calls = [begin(-32)] + sayings((0, 100), (10, 100), (50, 100))
        self.assertEqual(last(*calls, best(START)), [3, 20])
        self.assertEqual(last(*calls, *[ask(1, START)] * 8, best(START)), [2, 25])


class WhoGoes(unittest.TestCase):
    def test_the_one_farthest_off(self):
        for far in range(4):
            rows = [(0, 100), (6, 100), (12, 100)]
            rows.insert(far, (50, 100))
            self.assertEqual(told(*rows), [3, 6])

    def test_the_one_farthest_off_below(self):
        self.assertEqual(told((0, 100), (-50, 100), (6, 100), (12, 100)), [3, 6])

    def test_one_after_another(self):
        # 90 goes first, then 0 is farther off than 60.
        self.assertEqual(told((0, 100), (30, 100), (36, 100), (60, 100), (90, 100)), [3, 42])

    def test_spreads_anew_each_time(self):
        # With 130 there, 0 is farther off than 60; once it is gone, 60 is.
        self.assertEqual(told((0, 200), (10, 200), (20, 200), (60, 200), (130, 200)), [3, 10])

    def test_of_equal_ones_the_last(self):
        # 0 and 20 are as far off; in order by number the later goes.
        self.assertEqual(told((0, 100), (6, 100), (14, 100), (20, 100)), [3, 6])
        self.assertEqual(told((20, 100), (6, 100), (14, 100), (0, 100)), [3, 13])
        self.assertEqual(told((6, 100), (20, 100), (0, 100), (14, 100)), [3, 13])

    def test_of_equal_ones_the_last_by_distance(self):
        self.assertEqual(told((0, 9999), (6, 9999), (14, 9999), (20, 9998)), [3, 13])
        self.assertEqual(told((0, 9998), (6, 9999), (14, 9999), (20, 9999)), [3, 6])
        self.assertEqual(told((20, 9998), (6, 9999), (14, 9999), (0, 9999)), [3, 13])
        self.assertEqual(told((20, 9999), (6, 9999), (14, 9999), (0, 9998)), [3, 6])

    def test_of_equal_ones_the_last_by_stratum(self):
        for first, last_one in ((1, 2), (2, 10), (14, 15)):
            near, far = (9998, 1, last_one), (9999, 1, first)
            self.assertEqual(told((0,) + near, (6,) + near, (14,) + near, (20,) + far), [3, 13])
            self.assertEqual(told((0,) + far, (6,) + far, (14,) + far, (20,) + near), [3, 6])
            self.assertEqual(told((20,) + near, (6,) + far, (14,) + far, (0,) + far), [3, 6])

    def test_all_alike(self):
        self.assertEqual(told(*[(7, 100)] * 8), [8, 7])

    def test_eight(self):
        rows = [(offset, 1000) for offset in (0, 1, 2, 500, 400, 300, 200, 100)]
        self.assertEqual(told(*rows), [3, 1])


class WhoStays(unittest.TestCase):
    def test_a_spread_below_the_least_jitter(self):
        # The spread of 0 and of 9 is the root of 42, that is 6.
        rows = [(0, 100), (3, 100), (6, 100), (9, 100)]
        self.assertEqual(told(*[row + (7,) for row in rows]), [4, 4])
        self.assertEqual(told(*[row + (6,) for row in rows]), [3, 3])
        self.assertEqual(told(*[row + (5,) for row in rows]), [3, 3])

    def test_the_least_jitter_counts(self):
        rows = [(0, 100, 90), (3, 100, 90), (6, 100, 90), (9, 100, 90)]
        self.assertEqual(told(*rows), [4, 4])
        for low in range(4):
            for jitter, answered in ((6, [3, 3]), (7, [4, 4])):
                fewer = list(rows)
                fewer[low] = rows[low][:2] + (jitter,)
                self.assertEqual(told(*fewer), answered)

    def test_some_go_and_then_nobody(self):
        # 60 and its jitter go first; the others lie nearer together than their jitters.
        rows = [(0, 100, 40), (3, 100, 40), (6, 100, 40), (9, 100, 40), (60, 100, 5)]
        self.assertEqual(told(*rows), [4, 4])

    def test_more_than_three_stay(self):
        rows = [(offset, 100, 50) for offset in range(8)]
        self.assertEqual(told(*rows), [8, 3])

    def test_the_precision_as_jitter(self):
        # All that lies nearer together than one's own precision stays.
        for precision, many in ((-22, 4), (-30, 3)):
            calls = [call for number in range(4) for place in range(8)
                     for call in exchanged(number, 3 * number, 10000, START, precision=-32)]
            self.assertEqual(last(begin(precision), *calls, best(START))[0], many)


class NothingChanges(unittest.TestCase):
    def test_told_again(self):
        calls = [begin(-32)] + sayings((0, 100), (6, 100), (12, 100), (50, 100))
        parts = run(*calls, best(START), best(START + 2 ** 63 - 1), true(START), best(START))
        self.assertEqual(parts[-4:], [[3, 6], [-5], [4, -50, 100, 0], [3, 6]])

    def test_weights_at_another_time(self):
        # 14 more for both distances, as 17 halved and halved again is 15, not 1.
        calls = [begin(-32)] + sayings((0, 100), (300, 400))
        self.assertEqual(last(*calls, best(START)), [-5])
        calls = [begin(-32)] + sayings((0, 100), (90, 400))
        self.assertEqual(last(*calls, best(START)), [2, 18])
        self.assertEqual(last(*calls, best(START + 1000000)), [2, 90 * 114 // 528])
