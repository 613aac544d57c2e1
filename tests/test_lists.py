import unittest

from askedtime.desk import answers
from tests.helpers import answer, ask, begin, packet


def long_list():
    """Calls of every kind that is answered, refused ones among them."""
    calls = ask(0, 1) + [4, 0, 1, 5, 2, 6, 3] + begin(1) + begin(-6)
    for step in range(100):
        other = step % 10 - 1
        start = step * 2 ** 33
        calls += ask(other, start)
        calls += answer(other, start + 99, packet(start, start + 3, start + 4, stratum=step % 17))
        calls += answer(other, start + 99, [step] * (step % 50))
    return calls


class Lists(unittest.TestCase):
    def test_how_answers_lie(self):
        self.assertEqual(answers([1, 1]), [1, -2])
        self.assertEqual(answers([2, 0, 7]), [1, -9])
        self.assertEqual(answers([1, 0, 2, 0, 7, 2, 8, 7]), [1, 0, 49, 0, 35] + [0] * 46 + [7, 1, -2])

    def test_calls_lie_one_behind_another(self):
        calls = [3, 0, 1, 0] + [3, 0, 1, 3, 1, 2, 3] + [4, 1, 1] + [5, 1] + [6, 1] + [1, 0] + [3, 0, 1, 2, 1, 1]
        calls += [2, -1, 1] + [3, -1, 1, 0]
        self.assertEqual(answers(calls), [1, -9] * 5 + [1, 0] + [1, -3] + [1, -2] * 2)

    def test_four_hundred_calls(self):
        told = answers(begin(-1) + ask(0, 5) * 399)
        self.assertEqual(told, [1, 0] + ([49, 0, 35, 0, 0, 255] + [0] * 43 + [5]) * 399)

    def test_fifteen_of_the_longest_packets(self):
        calls = begin() + answer(0, 1, [7] * 1024) * 15
        self.assertEqual(answers(calls), [1, 0] + [1, -3] * 15)

    def test_the_list_stays_as_it_is(self):
        calls = long_list()
        before = list(calls)
        answers(calls)
        self.assertEqual(calls, before)

    def test_nothing_is_kept_from_one_time_to_the_next(self):
        first = answers(long_list())
        self.assertEqual(answers(long_list()), first)
        self.assertEqual(answers(ask(0, 1)), [1, -9])
        answers(begin() + ask(0, 100))
        self.assertEqual(answers(begin() + answer(0, 400, packet(100, 200, 300))), [1, 0, 1, -3])

    def test_the_same_list_handed_in_again(self):
        calls = long_list()
        first = answers(calls)
        kept = list(first)
        first.append(0)
        self.assertEqual(answers(calls), kept)

    def test_only_whole_numbers_are_given_back(self):
        told = answers(long_list())
        self.assertIs(type(told), list)
        self.assertEqual({type(number) for number in told}, {int})
