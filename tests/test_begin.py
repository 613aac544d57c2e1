import unittest

from tests.helpers import INT_ENDS, LAST_TIME, answer, ask, begin, begun, exchange, kept, last, packet, run

NEW = (None, 0, 0, 0, 0, [])


class Begin(unittest.TestCase):
    def test_precisions_that_are_in_range(self):
        for precision in range(-32, 1):
            self.assertEqual(run(begin(precision)), [[0]])

    def test_precisions_that_are_out_of_range(self):
        for precision in (-33, 1, -34, 2, 255, 224, *INT_ENDS):
            self.assertEqual(run(begin(precision)), [[-2]])

    def test_the_others_are_new(self):
        desk = begun()
        self.assertEqual(len(desk.others), 8)
        for other in range(8):
            self.assertEqual(kept(desk, other), NEW)

    def test_nothing_before_begin(self):
        calls = [ask(0, 0), ask(7, LAST_TIME), answer(0, 0, []), answer(3, 9, packet(1, 2, 3)),
                 [4, 0, 0], [4, 7, LAST_TIME], [5, 0], [5, LAST_TIME], [6, 0], [6, LAST_TIME]]
        self.assertEqual(run(*calls), [[-9]] * len(calls))

    def test_not_begun_comes_ahead_of_other_refusals(self):
        calls = [ask(-1, 0), ask(8, 0), answer(-1, 0, []), answer(8, 0, [0] * 1024), [4, -1, 0], [4, 8, 0]]
        self.assertEqual(run(*calls), [[-9]] * len(calls))

    def test_a_refused_begin_begins_nothing(self):
        self.assertEqual(run(begin(1), ask(0, 5), begin(-33), [5, 0], [6, 0], [4, 1, 1], begin(0))[1:],
                         [[-9], [-2], [-9], [-9], [-9], [0]])

    def test_a_refused_begin_keeps_what_was_asked(self):
        for precision in (-33, 1, *INT_ENDS):
            told = run(begin(-5), ask(2, 100), begin(precision), answer(2, 400, packet(100, 200, 300)))
            self.assertEqual(told[2:], [[-2], [0]])

    def test_a_refused_begin_keeps_the_precision(self):
        self.assertEqual(last(begin(-5), begin(1), ask(0, 0))[1 + 3], 251)

    def test_a_refused_begin_keeps_samples_and_reach(self):
        desk = begun()
        self.assertEqual(exchange(desk, 4, 100, 200, 300, 400), 0)
        before = kept(desk, 4)
        self.assertEqual(desk.begin(1), [-2])
        self.assertEqual(kept(desk, 4), before)

    def test_a_second_begin_forgets_what_was_asked(self):
        self.assertEqual(last(begin(), ask(2, 100), begin(), answer(2, 400, packet(100, 200, 300))), [-3])

    def test_a_second_begin_takes_the_new_precision(self):
        self.assertEqual(last(begin(-5), begin(-7), ask(0, 0))[1 + 3], 249)

    def test_a_second_begin_makes_all_new(self):
        desk = begun()
        for other in range(8):
            self.assertEqual(exchange(desk, other, 100, 200, 300, 400, root_delay=4, root_dispersion=5), 0)
            desk.ask(other, 500)
        self.assertEqual(desk.begin(-20), [0])
        for other in range(8):
            self.assertEqual(kept(desk, other), NEW)
