"""Calls and packets as the tests write them, apart from the program's own code."""

import struct

from askedtime.desk import Desk, answers

SECOND = 2 ** 32
LAST_TIME = 2 ** 64 - 1
INT_ENDS = (-2147483648, 2147483647)


def begin(precision=-20):
    return [1, precision]


def ask(other, now):
    return [2, other, now]


def answer(other, now, row):
    return [3, other, now, len(row)] + list(row)


def other(number, now):
    return [4, number, now]


def true(now):
    return [5, now]


def best(now):
    return [6, now]


def run(*calls):
    """The answers to the calls, a list each."""
    told = answers([number for call in calls for number in call])
    parts = []
    while told:
        size = told[0]
        parts.append(told[1:1 + size])
        if len(parts[-1]) != size or size < 1:
            raise AssertionError("the answers' lengths are wrong")
        told = told[1 + size:]
    if len(parts) != len(calls):
        raise AssertionError("not as many answers as calls")
    return parts


def last(*calls):
    """The answer to the last of the calls."""
    return run(*calls)[-1]


def packet(origin, received, sent, leap=0, version=4, mode=4, stratum=2, precision=-20,
           root_delay=0, root_dispersion=0, poll=0, reference=0, updated=0):
    """The 48 numbers of an answer that can be taken, unless told otherwise."""
    return list(struct.pack(
        ">BBBbIIIQQQQ", leap * 64 + version * 8 + mode, stratum, poll, precision,
        root_delay, root_dispersion, reference, updated,
        origin % 2 ** 64, received % 2 ** 64, sent % 2 ** 64))


def exchanged(number, offset, delay, now, **fields):
    """The two calls by which a sample of this offset and (even) delay is taken now."""
    origin = now - delay
    middle = origin + offset + delay // 2
    return [ask(number, origin % 2 ** 64), answer(number, now % 2 ** 64, packet(origin, middle, middle, **fields))]


def saying(number, offset, distance, now, jitter=1, stratum=2):
    """Calls of eight samples by which one says all this now, if one's own precision is -32."""
    roots, half = divmod(distance - jitter - 1, 2 ** 15)
    fields = {"stratum": stratum, "precision": -32, "root_delay": roots % 2, "root_dispersion": roots // 2}
    calls = []
    for place in range(7):
        # A longer delay makes these the others that the first one's jitter is reckoned from.
        more = jitter if jitter > 1 else 0
        calls += exchanged(number, offset + more, 2 * half + 2, now, **fields)
    return calls + exchanged(number, offset, 2 * half, now, **fields)


def begun(precision=-20):
    """A desk that has begun, to look at what it keeps."""
    desk = Desk()
    if desk.begin(precision) != [0]:
        raise AssertionError("begin was refused")
    return desk


def exchange(desk, other, origin, received, sent, now, **fields):
    """Ask and answer in one; the answer's first number."""
    desk.ask(other, origin % 2 ** 64)
    return desk.answer(other, now % 2 ** 64, packet(origin, received, sent, **fields))[0]


def kept(desk, other):
    """All that is kept of one of the others."""
    one = desk.others[other]
    samples = [(s.offset, s.delay, s.dispersion, s.time) for s in one.samples]
    return (one.asked, one.reach, one.stratum, one.root_delay, one.root_dispersion, samples)
