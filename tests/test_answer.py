import unittest

from tests.helpers import (INT_ENDS, LAST_TIME, SECOND, answer, ask, begin, begun, exchange, kept, last,
                           packet, run)

ASKED = 100 * SECOND
GOOD = (ASKED, ASKED + 200, ASKED + 300)
NOW = ASKED + 400


def answered(row, now=NOW):
    """The answer to a packet, then to a good one, after one ask."""
    told = run(begin(), ask(3, ASKED), answer(3, now, row), answer(3, NOW, packet(*GOOD)))
    return (told[2], told[3])


class Ranges(unittest.TestCase):
    def test_others_in_range(self):
        for other in range(8):
            self.assertEqual(last(begin(), ask(other, ASKED), answer(other, NOW, packet(*GOOD))), [0])

    def test_others_out_of_range(self):
        for other in (-1, 8, -8, 9, *INT_ENDS):
            for row in ([], [0], packet(*GOOD), [255] * 1024):
                self.assertEqual(last(begin(), ask(0, ASKED), ask(7, ASKED), answer(other, NOW, row)), [-2])

    def test_a_number_out_of_range_changes_nothing(self):
        told = run(begin(), ask(0, ASKED), ask(7, ASKED), answer(-1, NOW, packet(*GOOD)),
                   answer(8, NOW, packet(*GOOD)), answer(7, NOW, packet(*GOOD)), answer(0, NOW, packet(*GOOD)))
        self.assertEqual(told[3:], [[-2], [-2], [0], [0]])

    def test_a_packet_longer_than_any(self):
        desk = begun()
        self.assertEqual(desk.answer(0, 0, [0] * 1024), [-3])
        self.assertEqual(desk.answer(0, 0, [0] * 1025), [-2])


class NotAnAnswer(unittest.TestCase):
    def refused(self, row, now=NOW):
        self.assertEqual(answered(row, now), ([-3], [0]))

    def test_lengths(self):
        good = packet(*GOOD)
        for row in ([], good[:1], good[:47], good + [0], good + good, (good * 22)[:1024]):
            self.refused(row)

    def test_modes(self):
        for mode in (0, 1, 2, 3, 5, 6, 7):
            self.refused(packet(*GOOD, mode=mode))

    def test_versions(self):
        for version in (0, 1, 2, 5, 6, 7):
            self.refused(packet(*GOOD, version=version))
        for version in (3, 4):
            self.assertEqual(answered(packet(*GOOD, version=version)), ([0], [-3]))

    def test_another_origin(self):
        for origin in (ASKED - 1, ASKED + 1, 0, LAST_TIME, ASKED + 2 ** 63, ASKED ^ 2 ** 32):
            self.refused(packet(origin, *GOOD[1:]))

    def test_every_byte_of_the_origin_counts(self):
        for place in range(24, 32):
            row = packet(*GOOD)
            row[place] ^= 1
            self.refused(row)

    def test_nothing_asked(self):
        self.assertEqual(last(begin(), answer(3, NOW, packet(*GOOD))), [-3])
        self.assertEqual(last(begin(), ask(2, ASKED), answer(3, NOW, packet(*GOOD))), [-3])

    def test_nothing_asked_is_not_asked_at_nought(self):
        row = packet(0, 200, 300)
        told = run(begin(), answer(3, 400, row), ask(3, 0), answer(3, 400, row), answer(3, 400, row))
        self.assertEqual([told[1], told[3], told[4]], [[-3], [0], [-3]])

    def test_it_comes_ahead_of_what_is_of_no_use(self):
        self.refused(packet(*GOOD, mode=3, leap=3))
        self.refused(packet(ASKED + 1, 0, 0, stratum=0))
        self.refused(packet(*GOOD, version=5), ASKED - 1)

    def test_it_keeps_all_as_it_was(self):
        desk = begun()
        exchange(desk, 3, *GOOD, NOW)
        desk.ask(3, ASKED + 1000)
        before = kept(desk, 3)
        for row in (packet(*GOOD), packet(ASKED + 1000, 1, 2, mode=3), [], [0] * 49):
            self.assertEqual(desk.answer(3, NOW + 1000, row), [-3])
        self.assertEqual(kept(desk, 3), before)


class OfNoUse(unittest.TestCase):
    def refused(self, row, now=NOW):
        self.assertEqual(answered(row, now), ([-4], [-3]))

    def taken(self, row, now=NOW):
        self.assertEqual(answered(row, now), ([0], [-3]))

    def at(self, asked, received, sent, now, expected, **fields):
        """One exchange at other times, each of which may lie beyond a round."""
        desk = begun()
        self.assertEqual(exchange(desk, 3, asked, received, sent, now, **fields), expected)
        self.assertEqual(desk.answer(3, now % 2 ** 64, packet(asked, received, sent, **fields)), [-3])

    def test_leap(self):
        for leap in (0, 1, 2):
            self.taken(packet(*GOOD, leap=leap))
        self.refused(packet(*GOOD, leap=3))

    def test_stratum(self):
        for stratum in (1, 2, 14, 15):
            self.taken(packet(*GOOD, stratum=stratum))
        for stratum in (0, 16, 17, 128, 255):
            self.refused(packet(*GOOD, stratum=stratum))

    def test_received_nought(self):
        # By a time just before the round's end, 0 would be near enough otherwise.
        self.at(-50, 0, 20, 60, -4)
        self.at(-50, 1, 20, 60, 0)
        self.at(-50, -1, 20, 60, 0)

    def test_sent_nought(self):
        self.at(-50, -20, 0, 60, -4)
        self.at(-50, -20, 1, 60, 0)
        self.at(-50, -20, -1, 60, 0)

    def test_precision(self):
        for precision in (-32, -31, -1, 0):
            self.taken(packet(*GOOD, precision=precision))
        for precision in (-128, -34, -33, 1, 2, 127):
            self.refused(packet(*GOOD, precision=precision))

    def test_sent_before_received(self):
        self.taken(packet(ASKED, ASKED + 200, ASKED + 200))
        self.refused(packet(ASKED, ASKED + 200, ASKED + 199))
        self.at(-50, -1, 2, 60, 0)
        self.at(-50, 2, -1, 60, -4)

    def test_now_before_origin(self):
        self.taken(packet(*GOOD), ASKED)
        self.refused(packet(*GOOD), ASKED - 1)
        self.at(-1, 20, 30, 0, 0)
        self.at(0, 20, 30, -1, -4)
        self.at(3, 20, 30, -2, -4)

    def test_half_a_round_between_origin_and_now(self):
        gap = 2 ** 63
        self.at(5, 5 + gap // 2, 6 + gap // 2, 5 + gap - 1, 0)
        self.at(5, 5 + gap // 2, 6 + gap // 2, 5 + gap, -4)

    def test_half_a_round_between_received_and_sent(self):
        gap = 2 ** 63
        self.at(gap // 2, 5, 5 + gap - 1, gap // 2 + 10, 0)
        self.at(gap // 2, 5, 5 + gap, gap // 2 + 10, -4)

    def test_offset_too_great(self):
        for start in (7, 2 ** 63 - 5, LAST_TIME - 2):
            self.at(start, start + 2 ** 60, start + 2 ** 60, start, -4)
            self.at(start, start + 2 ** 60, start + 2 ** 60 - 1, start, -4)
            self.at(start, start + 2 ** 60 - 1, start + 2 ** 60, start, 0)
            self.at(start, start + 2 ** 60 - 1, start + 2 ** 60 + 1, start, -4)
            self.at(start, start + 2 ** 60 - 1, start + 2 ** 60 - 1, start, 0)

    def test_offset_too_small(self):
        for start in (7, 2 ** 63 - 5, LAST_TIME - 2):
            self.at(start, start - 2 ** 60, start - 2 ** 60, start, -4)
            self.at(start, start - 2 ** 60, start - 2 ** 60 + 1, start, -4)
            self.at(start, start - 2 ** 60, start - 2 ** 60 + 2, start, 0)
            self.at(start, start - 2 ** 60 + 1, start - 2 ** 60 + 1, start, 0)

    def test_offset_is_no_less_for_going_far_round(self):
        self.at(7, 7 + 2 ** 63 - 1, 7 + 2 ** 63 - 1, 7, -4)
        self.at(7, 7 + 2 ** 63, 7 + 2 ** 63, 7, -4)

    def test_root_dispersion(self):
        self.taken(packet(*GOOD, root_dispersion=16 * 2 ** 16 - 1))
        self.refused(packet(*GOOD, root_dispersion=16 * 2 ** 16))
        self.refused(packet(*GOOD, root_dispersion=2 ** 32 - 1))

    def test_root_delay(self):
        self.taken(packet(*GOOD, root_delay=32 * 2 ** 16 - 1))
        self.refused(packet(*GOOD, root_delay=32 * 2 ** 16))
        self.refused(packet(*GOOD, root_delay=2 ** 32 - 1))

    def test_root_delay_and_root_dispersion_together(self):
        self.taken(packet(*GOOD, root_delay=2 ** 20 + 1, root_dispersion=2 ** 19 - 1))
        self.refused(packet(*GOOD, root_delay=2 ** 20, root_dispersion=2 ** 19))
        self.taken(packet(*GOOD, root_delay=1, root_dispersion=2 ** 20 - 1))
        self.refused(packet(*GOOD, root_delay=2, root_dispersion=2 ** 20 - 1))

    def test_it_keeps_all_but_what_was_asked(self):
        desk = begun()
        exchange(desk, 3, *GOOD, NOW, root_delay=8, root_dispersion=9)
        desk.ask(3, ASKED + 1000)
        before = kept(desk, 3)
        row = packet(ASKED + 1000, ASKED + 1200, ASKED + 1300, leap=3, stratum=7, root_delay=3)
        self.assertEqual(desk.answer(3, NOW + 1000, row), [-4])
        self.assertEqual(before[0], ASKED + 1000)
        self.assertEqual(kept(desk, 3), (None,) + before[1:])

    def test_it_may_be_asked_anew(self):
        told = run(begin(), ask(3, ASKED), answer(3, NOW, packet(*GOOD, leap=3)), ask(3, ASKED),
                   answer(3, NOW, packet(*GOOD)))
        self.assertEqual([told[2], told[4]], [[-4], [0]])


class Taken(unittest.TestCase):
    def test_the_same_again_is_no_answer(self):
        self.assertEqual(answered(packet(*GOOD)), ([0], [-3]))

    def test_fields_that_do_not_count(self):
        row = packet(*GOOD, poll=255, reference=2 ** 32 - 1, updated=LAST_TIME)
        self.assertEqual(answered(row), ([0], [-3]))

    def test_several_in_turn(self):
        calls = [begin()]
        for other in range(8):
            calls.append(ask(other, ASKED + other))
        for other in (5, 0, 7, 2, 6, 1, 4, 3):
            calls.append(answer(other, NOW, packet(ASKED + other, *GOOD[1:])))
            calls.append(answer(other, NOW, packet(ASKED + other, *GOOD[1:])))
        self.assertEqual(run(*calls)[9:], [[0], [-3]] * 8)

    def test_many_of_one(self):
        calls = [begin()]
        for step in range(20):
            start = (LAST_TIME - 10 * SECOND + step * SECOND) % 2 ** 64
            calls.append(ask(6, start))
            calls.append(answer(6, (start + 40) % 2 ** 64, packet(start, start + 9, start + 11)))
        told = run(*calls)
        self.assertEqual(told[2::2], [[0]] * 20)
        self.assertEqual([len(part) for part in told[1::2]], [49] * 20)
