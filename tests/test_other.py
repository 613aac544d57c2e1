import unittest

from tests.helpers import (INT_ENDS, LAST_TIME, SECOND, answer, ask, begin, exchanged, last, other, packet, run, saying,
                           true)

START = 1000 * SECOND
# What seven, six .. samples that lack add: 16 seconds by 4, by 8 .. by 256.
LACK = [sum(2 ** 36 // 2 ** (place + 1) for place in range(have, 8)) for have in range(9)]


def told(calls, now, number=3, precision=-32):
    """What one says now, after begin and these calls."""
    return last(begin(precision), *calls, other(number, now))


def samples(*rows, **fields):
    """Calls of one sample for each row: offset, delay, when taken."""
    fields.setdefault("precision", -32)
    return [call for row in rows for call in exchanged(3, *row, **fields)]


class Refusals(unittest.TestCase):
    def test_before_begin(self):
        for number in (0, 7, -1, 8, *INT_ENDS):
            self.assertEqual(last(other(number, START)), [-9])
            self.assertEqual(last(begin(1), other(number, START)), [-9])

    def test_out_of_range(self):
        calls = [call for number in range(8) for call in exchanged(number, 0, 0, START)]
        for number in (-1, 8, -8, 9, 2 ** 8, *INT_ENDS):
            self.assertEqual(last(begin(), other(number, START)), [-2])
            self.assertEqual(last(begin(), *calls, other(number, START)), [-2])

    def test_no_sample(self):
        for number in range(8):
            self.assertEqual(last(begin(), other(number, START)), [-4])
            self.assertEqual(last(begin(), ask(number, START), other(number, START)), [-4])

    def test_no_sample_of_this_one(self):
        for number in (0, 1, 2, 4, 5, 6, 7):
            self.assertEqual(told(samples((0, 0, START)), START, number), [-4])

    def test_no_sample_of_an_answer_that_was_not_taken(self):
        self.assertEqual(told(samples((0, 0, START), leap=3), START), [-4])
        self.assertEqual(told(samples((0, 0, START), mode=3), START), [-4])

    def test_no_sample_after_another_begin(self):
        calls = samples((0, 0, START))
        self.assertEqual(told(calls + [begin()], START), [-4])
        self.assertEqual(told(calls + [begin(1)], START)[0], 0)


class OneSample(unittest.TestCase):
    def test_all_six_numbers(self):
        calls = samples((-77, 1000, START), precision=-30, root_delay=3, root_dispersion=5)
        distance = (1000 + 3 * 65536) // 2 + 2 + LACK[1] + 5 * 65536 + 1
        self.assertEqual(told(calls, START), [0, -77, 1000, 2 + LACK[1], 1, distance, 0])

    def test_each_of_the_others(self):
        for number in range(8):
            answered = told(exchanged(number, number, 4, START, precision=-32), START, number)
            self.assertEqual(answered, [0, number, 4, 1 + LACK[1], 1, 2 + 1 + LACK[1] + 1, 0])

    def test_delay_is_halved_together_and_rounded_down(self):
        for delay, root_delay, half in ((1, 0, 0), (3, 0, 1), (3, 1, 32769), (5, 3, 98306)):
            row = packet(START, START + 8, START + 8, precision=-32, root_delay=root_delay)
            answered = told([ask(3, START), answer(3, START + delay, row)], START + delay)
            self.assertEqual(answered[2], delay)
            self.assertEqual(answered[5], half + 1 + LACK[1] + 1)

    def test_jitter_is_ones_own_precision(self):
        for own in (-32, -20, -1, 0):
            for theirs in (-32, 0):
                answered = told(samples((0, 2 ** 33, START), precision=theirs), START, precision=own)
                self.assertEqual(answered[4], 2 ** (32 + own))


class Order(unittest.TestCase):
    def test_the_shortest_delay_is_first(self):
        rows = [(10, 600, START), (20, 400, START), (30, 800, START)]
        for turned in (rows, rows[::-1], rows[1:] + rows[:1], rows[2:] + rows[:2]):
            answered = told(samples(*turned), START)
            self.assertEqual(answered[1:3], [20, 400])
            self.assertEqual(answered[4], 10)

    def test_of_equal_delays_the_later_is_first(self):
        for offsets in ([1, 2], [2, 1], [5, 9, 7], [9, 5, 7], [8, 7, 6, 5, 4, 3, 2, 1, 9]):
            rows = [(offset, 400, START + place) for place, offset in enumerate(offsets)]
            self.assertEqual(told(samples(*rows), START)[1], offsets[-1])

    def test_the_later_is_the_one_taken_later(self):
        rows = [(1, 400, START + 50), (2, 400, START), (3, 402, START + 70)]
        self.assertEqual(told(samples(*rows), START)[1], 2)

    def test_dispersions_go_by_that_order(self):
        calls = samples((0, 400, START), precision=-20) + samples((0, 400, START), precision=-22)
        parts = (2 ** 10 + 1) // 2 + (2 ** 12 + 1) // 4
        self.assertEqual(told(calls, START)[3], parts + LACK[2])
        calls = samples((0, 398, START), precision=-20) + samples((0, 400, START), precision=-22)
        parts = (2 ** 12 + 1) // 2 + (2 ** 10 + 1) // 4
        self.assertEqual(told(calls, START)[3], parts + LACK[2])

    def test_the_ninth_sample_is_gone(self):
        rows = [(99, 2, START)] + [(place, 400 - 2 * place, START) for place in range(8)]
        self.assertEqual(told(samples(*rows[:8]), START)[1:3], [99, 2])
        self.assertEqual(told(samples(*rows), START)[1:3], [7, 386])


class Dispersion(unittest.TestCase):
    def test_of_one_to_nine(self):
        for many in range(1, 10):
            rows = [(0, 400, START)] * many
            parts = [(2 ** 22 + 1) // 2 ** (place + 1) for place in range(min(many, 8))]
            self.assertEqual(told(samples(*rows, precision=-10), START)[3], sum(parts) + LACK[min(many, 8)])

    def test_each_is_rounded_down_for_itself(self):
        # 2^8 - 1 halved again and again: 127, 63, 31, 15, 7, 3, 1, 0.
        rows = [(0, 400, START)] * 8
        now = START + 253 * 1000000 // 15 + 1
        self.assertEqual(told(samples(*rows), now)[3], 127 + 63 + 31 + 15 + 7 + 3 + 1)

    def test_age_since_the_last_was_taken(self):
        rows = [(0, 400, START - 4000000), (0, 400, START)]
        for gone, more in ((0, 0), (66666, 0), (66667, 1), (1000000, 15), (10 ** 12, 15 * 10 ** 6)):
            parts = (2 + more) // 2 + (62 + more) // 4
            self.assertEqual(told(samples(*rows), START + gone)[3], parts + LACK[2])

    def test_age_goes_by_the_last_and_not_by_the_first_in_order(self):
        rows = [(0, 400, START - 4000000), (0, 500, START)]
        parts = (62 + 15) // 2 + (2 + 15) // 4
        self.assertEqual(told(samples(*rows), START + 1000000)[3], parts + LACK[2])

    def test_no_age_before_the_last_was_taken(self):
        calls = samples((0, 400, START))
        for now in (START - 1, START - 10 ** 9, 0, START + 2 ** 63, LAST_TIME):
            self.assertEqual(told(calls, now)[3], 1 + LACK[1])

    def test_age_where_times_go_round(self):
        calls = samples((0, 400, -3000000))
        self.assertEqual(told(calls, 2000000)[3], (2 + 75) // 2 + LACK[1])
        self.assertEqual(told(calls, 0)[3], (2 + 45) // 2 + LACK[1])

    def test_sixteen_seconds_at_most(self):
        calls = samples((0, 400, START))
        for more in (-3, -2, -1, 0, 1, 2, 1000):
            age = 2 ** 36 - 2 + more
            gone = -(-age * 1000000 // 15)
            self.assertEqual(told(calls, START + gone)[3], min(2 ** 36 + more, 2 ** 36) // 2 + LACK[1])

    def test_sixteen_seconds_at_most_of_each(self):
        rows = [(0, 400, START - 10 ** 14), (0, 400, START)]
        gone = 2 ** 36 * 1000000 // 15 - 10 ** 13
        age = gone * 15 // 1000000
        self.assertLess(2 + age, 2 ** 36)
        self.assertGreater(2 + 15 * 10 ** 8 + age, 2 ** 36)
        self.assertEqual(told(samples(*rows), START + gone)[3], (2 + age) // 2 + 2 ** 36 // 4 + LACK[2])

    def test_the_greatest_of_all(self):
        rows = [(0, 400, START)] * 8
        self.assertEqual(told(samples(*rows), START + 2 ** 63 - 1)[3], LACK[0])


class Jitter(unittest.TestCase):
    def test_from_the_first(self):
        rows = [(3, 404, START), (-4, 402, START), (0, 400, START)]
        self.assertEqual(told(samples(*rows), START)[4], 3)
        rows = [(3, 404, START), (-4, 400, START), (0, 402, START)]
        self.assertEqual(told(samples(*rows), START)[4], 5)
        rows = [(3, 400, START), (-4, 404, START), (0, 402, START)]
        self.assertEqual(told(samples(*rows), START)[4], 5)

    def test_of_eight(self):
        rows = [(place * place, 400 + 2 * place, START) for place in range(8)]
        # (0 + 1 + 16 + 81 + 256 + 625 + 1296 + 2401) / 7 is 668.
        self.assertEqual(told(samples(*rows), START)[4], 25)

    def test_the_precision_at_least(self):
        for far, jitter in ((1023, 1024), (1024, 1024), (1025, 1025), (-1025, 1025), (0, 1024)):
            rows = [(far, 4002, START), (0, 4000, START)]
            self.assertEqual(told(samples(*rows, precision=-1), START, precision=-22)[4], jitter)

    def test_offsets_do_not_go_round(self):
        rows = [(2 ** 60 - 1, 400, START), (1 - 2 ** 60, 402, START)]
        answered = told(samples(*rows), START)
        self.assertEqual(answered[1], 2 ** 60 - 1)
        self.assertEqual(answered[4], 2 ** 61 - 2)


class Fit(unittest.TestCase):
    def test_below_one_and_a_half_seconds(self):
        for distance, fit in ((6442450942, 1), (6442450943, 1), (6442450944, 0), (6442450945, 0), (2 ** 34, 0), (9, 1)):
            answered = told(saying(3, 50, distance, START), START)
            self.assertEqual(answered[5:], [distance, fit])

    def test_as_time_goes_by(self):
        calls = saying(3, 50, 6442450902, START)
        self.assertEqual(told(calls, START)[5:], [6442450902, 1])
        told_later = [told(calls, START + gone * 1000000)[5:] for gone in (2, 3, 4)]
        # Ages of 30, 45 and 60, each with the samples' own 2, halved and halved again, in the place of 1:
        # 16 + 8 + 4 + 2 + 1, 23 + 11 + 5 + 2 + 1, 31 + 15 + 7 + 3 + 1.
        self.assertEqual(told_later, [[6442450932, 1], [6442450943, 1], [6442450958, 0]])

    def test_too_few_samples(self):
        for many in range(1, 9):
            answered = told(samples(*[(0, 400, START)] * many), START)
            self.assertEqual(answered[6], 1 if many >= 4 else 0)

    def test_eight_tries_that_nothing_came_back_of(self):
        calls = saying(3, 50, 100, START)
        for tries in range(12):
            asked = [ask(3, START + place) for place in range(tries)]
            self.assertEqual(told(calls + asked, START)[1], 50)
            self.assertEqual(told(calls + asked, START)[5:], [100, 1 if tries < 8 else 0])

    def test_tries_with_answers_that_were_not_taken(self):
        calls = saying(3, 50, 100, START)
        refused = samples((0, 0, START), leap=3) * 4 + samples((0, 0, START), mode=5) * 4
        self.assertEqual(told(calls + refused, START)[5:], [100, 0])
        self.assertEqual(told(calls + refused[2:], START)[5:], [100, 1])

    def test_fit_again_after_one_answer(self):
        calls = saying(3, 50, 100, START) + [ask(3, START)] * 8
        self.assertEqual(told(calls, START)[6], 0)
        self.assertEqual(told(calls + samples((50, 100, START)), START)[6], 1)


class NothingChanges(unittest.TestCase):
    def test_told_again(self):
        calls = [begin(-32)] + saying(3, 50, 100, START)
        parts = run(*calls, other(3, START), other(3, START + 10 ** 9), other(3, START))
        self.assertEqual(parts[-1], parts[-3])
        self.assertNotEqual(parts[-1], parts[-2])

    def test_what_was_asked_stays_asked(self):
        calls = samples((7, 8, START))
        parts = run(begin(), calls[0], other(3, START), true(START), other(8, START), calls[1])
        self.assertEqual(parts[2:], [[-4], [-5], [-2], [0]])

    def test_what_is_taken_later_counts(self):
        calls = saying(3, 50, 100, START)
        self.assertEqual(told(calls + samples((51, 10, START)), START)[1:3], [51, 10])
