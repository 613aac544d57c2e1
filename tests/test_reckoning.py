import random
import unittest

from askedtime.desk import answers
from tests import reckoning
from tests.helpers import SECOND, begun, best, exchanged, other, packet, true

ROUNDS = 60


def mixed_desk(chance):
    """A desk with samples of all sorts: near and far, many and few, some of them refused, across time's turn."""
    desk = begun(chance.choice((-32, -32, -28, -20, -9)))
    wide = chance.choice((3, 40, 1000, 2 ** 20, 2 ** 31))
    now = chance.choice((2 ** 45, 2 ** 64 - 2 ** 34, chance.randrange(2 ** 64)))
    for step in range(chance.choice((10, 40, 90))):
        number = chance.randrange(chance.choice((2, 5, 8)))
        now = (now + chance.choice((0, 70000, SECOND, 2 ** 40, -SECOND))) % 2 ** 64
        offset = chance.randrange(-wide, wide)
        delay = 2 * chance.randrange(chance.choice((2, 50, wide + 1)))
        roots = chance.choice((0, 0, 1, 9000))
        asked, answered = exchanged(number, offset, delay, now, precision=-32 + chance.randrange(12),
                                    stratum=chance.choice((1, 2, 2, 3)), root_delay=roots, root_dispersion=roots,
                                    leap=chance.choice((0, 0, 0, 3)))
        desk.reply(asked)
        if chance.random() < 0.9:
            desk.reply(answered)
    return desk, now


def close_desk(chance):
    """A desk whose others all have eight samples at one time, so that many are fit and some are true together."""
    desk = begun(-32)
    now = chance.randrange(2 ** 64)
    wide = chance.choice((8, 60))
    for number in range(chance.randrange(3, 9)):
        middle, half, apart = chance.randrange(-wide, wide), chance.randrange(1, wide), chance.choice((1, 5, wide))
        stratum = chance.choice((1, 2))
        for place in range(8):
            offset = middle + chance.randrange(apart)
            for call in exchanged(number, offset, 2 * half + 2 * place, now, stratum=stratum, precision=-32):
                desk.reply(call)
    return desk, now


class Reckoning(unittest.TestCase):
    def check(self, make, seed):
        chance = random.Random(seed)
        seen = []
        for turn in range(ROUNDS):
            desk, now = make(chance)
            for later in (now, (now + 3 * 10 ** 9) % 2 ** 64, (now + 2 ** 50) % 2 ** 64):
                for number in range(8):
                    self.assertEqual(desk.reply(other(number, later)), reckoning.other(desk, number, later))
                self.assertEqual(desk.reply(true(later)), reckoning.true(desk, later))
                self.assertEqual(desk.reply(best(later)), reckoning.best(desk, later))
                seen.append((desk.reply(true(later)), desk.reply(best(later))))
        return seen

    def test_mixed(self):
        seen = self.check(mixed_desk, 1)
        self.assertIn([-5], [told for told, found in seen])
        self.assertGreater(max(len(told) for told, found in seen), 1)

    def test_close(self):
        seen = [pair for pair in self.check(close_desk, 2) if pair[0] != [-5]]
        self.assertEqual({told[3] for told, found in seen}, {0, 1, 2, 3})
        self.assertLessEqual({2, 3, 4}, {found[0] for told, found in seen})


class Whole(unittest.TestCase):
    def test_as_one_list(self):
        chance = random.Random(3)
        desk = begun(-24)
        calls, told, now = [1, -24], [1, 0], 2 ** 64 - 2 ** 33
        for step in range(60):
            number, now = chance.randrange(3), (now + 2 ** 29) % 2 ** 64
            row = packet(now, now + 500, now + 600, precision=-20, stratum=1 + number)
            for call in ([2, number, now], [3, number, now + 90, 48] + row, other(number, now), true(now), best(now)):
                calls += call
                reply = desk.reply(call)
                told += [len(reply)] + reply
        self.assertEqual(answers(calls), told)
        self.assertEqual(told[-3:-1], [2, 3])
