import unittest

from tests.helpers import SECOND, begun, exchange, kept, packet

START = 1000 * SECOND


class Samples(unittest.TestCase):
    def only_sample(self, own, origin, received, sent, now, **fields):
        desk = begun(own)
        self.assertEqual(exchange(desk, 2, origin, received, sent, now, **fields), 0)
        samples = kept(desk, 2)[5]
        self.assertEqual(len(samples), 1)
        return samples[0]

    def test_an_ordinary_one(self):
        sample = self.only_sample(-32, START, START + 5000000, START + 5000500, START + 2000000, precision=-31)
        self.assertEqual(sample, (4000250, 1999500, 1 + 2 + 30, START + 2000000))

    def test_offset_is_rounded_down(self):
        self.assertEqual(self.only_sample(-32, START, START + 10, START + 11, START + 0)[0], 10)
        self.assertEqual(self.only_sample(-32, START, START - 11, START - 10, START + 0)[0], -11)

    def test_offset_where_times_go_round(self):
        self.assertEqual(self.only_sample(-32, -5, 25, 30, 45)[0], (30 - 15) // 2)
        self.assertEqual(self.only_sample(-32, 5, -25, -20, 45)[0], (-30 - 65) // 2)

    def test_delay_is_the_precision_at_least(self):
        for precision, part in ((-32, 1), (-22, 1024), (-1, 2 ** 31), (0, 2 ** 32)):
            for delay in (part - 1, part, part + 1, -part, 0):
                sample = self.only_sample(precision, START, START, START + 2 ** 33, START + 2 ** 33 + delay)
                self.assertEqual(sample[1], max(delay, part))

    def test_delay_goes_by_ones_own_precision(self):
        self.assertEqual(self.only_sample(-10, START, START, START, START, precision=0)[1], 2 ** 22)
        self.assertEqual(self.only_sample(0, START, START, START, START, precision=-10)[1], 2 ** 32)

    def test_delay_where_times_go_round(self):
        self.assertEqual(self.only_sample(-32, -5, -30, 20, 95)[1], 100 - 50)

    def test_dispersion(self):
        for own in (-32, -9, 0):
            for theirs in (-32, -18, 0):
                for gone, more in ((0, 0), (66666, 0), (66667, 1), (10 ** 12, 15 * 10 ** 6)):
                    sample = self.only_sample(own, START, START + 1, START + 1, START + gone, precision=theirs)
                    self.assertEqual(sample[2], 2 ** (32 + own) + 2 ** (32 + theirs) + more)

    def test_time_is_now(self):
        self.assertEqual(self.only_sample(-32, -5, 25, 30, 45)[3], 45)
        self.assertEqual(self.only_sample(-32, 0, 25, 30, 0)[3], 0)


class Others(unittest.TestCase):
    def test_stratum_and_roots_are_the_packets(self):
        desk = begun()
        exchange(desk, 1, START, START + 1, START + 2, START + 3, stratum=15, root_delay=7, root_dispersion=11)
        self.assertEqual(kept(desk, 1)[:5], (None, 1, 15, 7 * 2 ** 16, 11 * 2 ** 16))
        exchange(desk, 1, START, START + 1, START + 2, START + 3, stratum=1, root_delay=0, root_dispersion=2)
        self.assertEqual(kept(desk, 1)[:5], (None, 3, 1, 0, 2 * 2 ** 16))

    def test_every_byte_of_the_roots_counts(self):
        desk = begun()
        exchange(desk, 1, START, START + 1, START + 2, START + 3, root_delay=0x010203, root_dispersion=0x040506)
        self.assertEqual(kept(desk, 1)[3:5], (0x0102030000, 0x0405060000))

    def test_reach_has_eight_bits(self):
        desk = begun()
        seen = []
        for step in range(10):
            now = START + step * SECOND
            desk.ask(1, now)
            if step != 3:
                desk.answer(1, now + 9, packet(now, now + 1, now + 2))
            seen.append(desk.others[1].reach)
        self.assertEqual(seen, [1, 3, 7, 14, 29, 59, 119, 239, 223, 191])

    def test_only_the_one_that_answered_changes(self):
        desk = begun()
        exchange(desk, 1, START, START + 1, START + 2, START + 3)
        for other in (0, 2, 3, 4, 5, 6, 7):
            self.assertEqual(kept(desk, other), (None, 0, 0, 0, 0, []))

    def test_eight_are_kept_the_last_first(self):
        desk = begun(-32)
        for step in range(11):
            now = START + step * 1000000
            self.assertEqual(exchange(desk, 1, now, now + step, now + step, now, precision=-32), 0)
            samples = kept(desk, 1)[5]
            wanted = list(range(step, max(step - 8, -1), -1))
            self.assertEqual([sample[0] for sample in samples], wanted)
            self.assertEqual([sample[2] for sample in samples], [2 + 15 * (step - k) for k in wanted])
            self.assertEqual([sample[3] for sample in samples], [START + k * 1000000 for k in wanted])

    def test_each_step_of_age_is_rounded_for_itself(self):
        desk = begun(-32)
        for now in (START, START + 66666, START + 2 * 66666, START + 3 * 66666 + 1):
            exchange(desk, 1, now, now, now, now, precision=-32)
        self.assertEqual([sample[2] for sample in kept(desk, 1)[5]], [2, 3, 3, 3])

    def test_age_since_the_last_that_was_taken(self):
        desk = begun(-32)
        exchange(desk, 1, START, START, START, START, precision=-32)
        later = START + 10000000
        self.assertEqual(exchange(desk, 1, later, later, later, later, precision=-32, leap=3), -4)
        self.assertEqual([sample[2] for sample in kept(desk, 1)[5]], [2])
        latest = START + 20000000
        exchange(desk, 1, latest, latest, latest, latest, precision=-32)
        self.assertEqual([sample[2] for sample in kept(desk, 1)[5]], [2, 302])

    def test_no_age_if_now_went_back(self):
        desk = begun(-32)
        for now in (START, START - 10000000, START - 8000000):
            exchange(desk, 1, now, now, now, now, precision=-32)
        self.assertEqual([sample[2] for sample in kept(desk, 1)[5]], [2, 32, 32])

    def test_age_where_times_go_round(self):
        desk = begun(-32)
        for now in (-3000000, 2000000):
            exchange(desk, 1, now, now, now, now, precision=-32)
        self.assertEqual([sample[2] for sample in kept(desk, 1)[5]], [2, 77])
