import unittest

from askedtime.desk import answers
from tests.helpers import SECOND, answer, ask, begin, best, other, packet, saying, true


def long_list():
    """Calls of every kind that is answered, refused ones among them."""
    calls = ask(0, 1) + [4, 0, 1, 5, 2, 6, 3] + begin(1) + begin(-6)
    for step in range(100):
        number = step % 10 - 1
        start = step * 2 ** 33
        calls += ask(number, start)
        calls += answer(number, start + 99, packet(start, start + 3, start + 4, stratum=step % 17))
        calls += answer(number, start + 99, [step] * (step % 50))
    for number in range(-1, 9):
        calls += other(number, 2 ** 40)
    return calls + true(2 ** 40) + best(2 ** 40)


class Lists(unittest.TestCase):
    def test_how_answers_lie(self):
        self.assertEqual(answers([1, 1]), [1, -2])
        self.assertEqual(answers([2, 0, 7]), [1, -9])
        self.assertEqual(answers([1, 0, 2, 0, 7, 2, 8, 7]), [1, 0, 49, 0, 35] + [0] * 46 + [7, 1, -2])

    def test_calls_lie_one_behind_another(self):
        calls = [3, 0, 1, 0] + [3, 0, 1, 3, 1, 2, 3] + [4, 1, 1] + [5, 1] + [6, 1] + [1, 0] + [3, 0, 1, 2, 1, 1]
        calls += [2, -1, 1] + [3, -1, 1, 0]
        self.assertEqual(answers(calls), [1, -9] * 5 + [1, 0] + [1, -3] + [1, -2] * 2)

    def test_how_answers_of_several_numbers_lie(self):
        calls = begin(-32)
        for call in saying(0, -7, 100, SECOND) + saying(1, -7, 100, SECOND):
            calls += call
        told = answers(calls + other(1, SECOND) + true(SECOND) + best(SECOND) + other(2, SECOND) + true(SECOND))
        wanted = [7, 0, -7, 196, 1, 1, 100, 1] + [4, 2, -107, 93, 0] + [2, 2, -7] + [1, -4] + [4, 2, -107, 93, 0]
        self.assertEqual(told[-len(wanted):], wanted)

    def test_four_hundred_calls(self):
        told = answers(begin(-1) + ask(0, 5) * 399)
        self.assertEqual(told, [1, 0] + ([49, 0, 35, 0, 0, 255] + [0] * 43 + [5]) * 399)

    def test_four_hundred_calls_of_what_is_true(self):
        calls = begin(-32)
        for number in range(8):
            for call in saying(number, 40 * number, 1000, SECOND):
                calls += call
        # Of the two ends, equally far off, the last goes each time: 0, 40 and 80 stay.
        told = answers(calls + best(SECOND) * 271)
        self.assertEqual(told[-3 * 271:], [2, 3, 40] * 271)

    def test_fifteen_of_the_longest_packets(self):
        calls = begin() + answer(0, 1, [7] * 1024) * 15
        self.assertEqual(answers(calls), [1, 0] + [1, -3] * 15)

    def test_the_list_stays_as_it_is(self):
        calls = long_list()
        before = list(calls)
        answers(calls)
        self.assertEqual(calls, before)

    def test_nothing_is_kept_from_one_time_to_the_next(self):
        first = answers(long_list())
        self.assertEqual(answers(long_list()), first)
        self.assertEqual(answers(ask(0, 1)), [1, -9])
        self.assertEqual(answers(begin() + true(1) + other(0, 1) + best(1)), [1, 0, 1, -5, 1, -4, 1, -5])
        answers(begin() + ask(0, 100))
        self.assertEqual(answers(begin() + answer(0, 400, packet(100, 200, 300))), [1, 0, 1, -3])

    def test_the_same_list_handed_in_again(self):
        calls = long_list()
        first = answers(calls)
        kept = list(first)
        first.append(0)
        self.assertEqual(answers(calls), kept)

    def test_only_whole_numbers_are_given_back(self):
        told = answers(long_list())
        self.assertIs(type(told), list)
        self.assertEqual({type(number) for number in told}, {int})
