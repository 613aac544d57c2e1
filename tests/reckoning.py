"""What is said, true and best, reckoned a second time from what is kept, apart from the program's own code."""

from fractions import Fraction
from math import floor, isqrt

SECOND = 2 ** 32


def gone(now, then):
    return (now - then + 2 ** 63) % 2 ** 64 - 2 ** 63


def said(desk, number, now):
    """The six numbers of one of the others, then its stratum and number; None without samples."""
    one = desk.others[number]
    if not one.samples:
        return None
    part = 2 ** (32 + desk.precision)
    aged = max(gone(now, one.samples[0].time), 0) * 15 // 1000000
    order = sorted(range(len(one.samples)), key=lambda place: (one.samples[place].delay, place))
    first = one.samples[order[0]]
    dispersion = 0
    for place in range(8):
        amount = 16 * SECOND
        if place < len(order):
            amount = min(amount, one.samples[order[place]].dispersion + aged)
        dispersion += amount // 2 ** (place + 1)
    squares = [(one.samples[place].offset - first.offset) ** 2 for place in order[1:]]
    jitter = max(isqrt(sum(squares) // len(squares)), part) if squares else part
    distance = (first.delay + one.root_delay) // 2 + dispersion + one.root_dispersion + jitter
    fit = int(one.reach > 0 and 2 * distance < 3 * SECOND)
    return [first.offset, first.delay, dispersion, jitter, distance, fit, one.stratum, number]


def fit_ones(desk, now):
    sayings = [said(desk, number, now) for number in range(8)]
    return [one for one in sayings if one is not None and one[5] == 1]


def true_of(ones):
    """Low, high and f; None if there is no such f."""
    spans = [(one[0] - one[4], one[0] + one[4]) for one in ones]

    def enough(end, f):
        return sum(low <= end <= high for low, high in spans) >= len(ones) - f

    for f in range((len(ones) + 1) // 2):
        lows = [low for low, high in spans if enough(low, f)]
        highs = [high for low, high in spans if enough(high, f)]
        if lows and highs and min(lows) <= max(highs):
            if sum(one[0] < min(lows) or one[0] > max(highs) for one in ones) <= f:
                return min(lows), max(highs), f
    return None


def true(desk, now):
    ones = fit_ones(desk, now)
    found = true_of(ones)
    if found is None:
        return [-5]
    return [sum(found[0] <= one[0] <= found[1] for one in ones), *found]


def best(desk, now):
    ones = fit_ones(desk, now)
    found = true_of(ones)
    if found is None:
        return [-5]
    left = sorted((one[6], one[4], one[7], one[0], one[3]) for one in ones if found[0] <= one[0] <= found[1])
    while len(left) > 3:
        spreads = []
        for place, one in enumerate(left):
            squares = [(one[3] - other[3]) ** 2 for other in left[:place] + left[place + 1:]]
            spreads.append((isqrt(sum(squares) // len(squares)), place))
        if max(spreads)[0] < min(one[4] for one in left):
            break
        left.pop(max(spreads)[1])
    weights = [Fraction(1, one[1]) for one in left]
    return [len(left), floor(sum(weight * one[3] for weight, one in zip(weights, left)) / sum(weights))]


def other(desk, number, now):
    answered = said(desk, number, now)
    return [-4] if answered is None else [0] + answered[:6]
