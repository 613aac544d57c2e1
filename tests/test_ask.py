import unittest

from tests.helpers import INT_ENDS, LAST_TIME, answer, ask, begin, begun, exchange, kept, last, packet, run


class Ask(unittest.TestCase):
    def test_others_in_range(self):
        for other in range(8):
            self.assertEqual(last(begin(), ask(other, 5))[0], 0)

    def test_others_out_of_range(self):
        for other in (-1, 8, -8, 9, *INT_ENDS):
            self.assertEqual(last(begin(), ask(other, 5)), [-2])

    def test_the_packet_at_nought(self):
        self.assertEqual(last(begin(0), ask(0, 0)), [0] + [35] + [0] * 47)

    def test_the_packet_in_the_middle(self):
        expected = [0] + [35, 0, 0, 255] + [0] * 36 + [1, 35, 69, 103, 137, 171, 205, 239]
        self.assertEqual(last(begin(-1), ask(7, 0x0123456789ABCDEF)), expected)

    def test_the_packet_at_the_last_time(self):
        expected = [0] + [35, 0, 0, 224] + [0] * 36 + [255] * 8
        self.assertEqual(last(begin(-32), ask(3, LAST_TIME)), expected)

    def test_every_precision_and_time_together(self):
        for precision, byte in ((0, 0), (-1, 255), (-32, 224)):
            for now in (0, 1, 255, 256, 2 ** 32, 2 ** 63, 0xFEDCBA9876543210, LAST_TIME):
                expected = [0, 35, 0, 0, byte] + [0] * 36 + list(now.to_bytes(8, "big"))
                self.assertEqual(last(begin(precision), ask(1, now)), expected)

    def test_the_packet_does_not_tell_what_was_answered(self):
        told = last(begin(-1), ask(0, 100), answer(0, 400, packet(100, 200, 300, stratum=3)), ask(0, 500))
        self.assertEqual(told, [0, 35, 0, 0, 255] + [0] * 42 + [1, 244])

    def test_of_two_the_later_counts(self):
        told = run(begin(), ask(0, 100), ask(0, 150), answer(0, 400, packet(100, 200, 300)),
                   answer(0, 400, packet(150, 200, 300)), answer(0, 400, packet(150, 200, 300)))
        self.assertEqual(told[3:], [[-3], [0], [-3]])

    def test_the_later_counts_though_it_is_an_earlier_time(self):
        told = run(begin(), ask(0, 150), ask(0, 100), answer(0, 400, packet(150, 200, 300)),
                   answer(0, 400, packet(100, 200, 300)))
        self.assertEqual(told[3:], [[-3], [0]])

    def test_each_is_asked_for_itself(self):
        told = run(begin(), ask(0, 100), ask(1, 150), answer(0, 400, packet(150, 200, 300)),
                   answer(1, 400, packet(100, 200, 300)), answer(1, 400, packet(150, 200, 300)),
                   answer(0, 400, packet(100, 200, 300)))
        self.assertEqual(told[3:], [[-3], [-3], [0], [0]])

    def test_a_refused_ask_asks_nobody(self):
        desk = begun()
        self.assertEqual([desk.ask(-1, 9), desk.ask(8, 9)], [[-2], [-2]])
        for other in range(8):
            self.assertEqual(kept(desk, other), (None, 0, 0, 0, 0, []))

    def test_reach_goes_left(self):
        desk = begun()
        self.assertEqual(exchange(desk, 5, 100, 200, 300, 400), 0)
        seen = [desk.others[5].reach]
        for now in range(9):
            desk.ask(5, now)
            seen.append(desk.others[5].reach)
        self.assertEqual(seen, [1, 2, 4, 8, 16, 32, 64, 128, 0, 0])
        self.assertEqual([desk.others[k].reach for k in (4, 6)], [0, 0])

    def test_ask_keeps_what_was_told(self):
        desk = begun()
        exchange(desk, 5, 100, 200, 300, 400, stratum=9, root_delay=1, root_dispersion=2)
        before = kept(desk, 5)
        desk.ask(5, 1000)
        self.assertEqual(kept(desk, 5), (1000, 2) + before[2:])
