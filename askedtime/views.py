"""What one of the others says at some time, of all its samples together."""

from askedtime.others import MOST_SAMPLES
from askedtime.roots import spread
from askedtime.times import age, less, part_of_second

# 16 seconds and 1.5 seconds.
MOST_DISPERSION = 68719476736
FIT_LIMIT = 6442450944


def by_delay(samples):
    """The samples that came the shortest way first."""
    # The last is kept first and equal ones stay as they are: the later comes first.
    return sorted(samples, key=lambda sample: sample.delay)


def dispersion_of(samples, more):
    """The dispersion of samples in their order, each older by so much; those that lack count most."""
    amounts = [min(sample.dispersion + more, MOST_DISPERSION) for sample in samples]
    amounts.extend([MOST_DISPERSION] * (MOST_SAMPLES - len(samples)))
    return sum([amounts[place] >> (place + 1) for place in range(MOST_SAMPLES)])


def jitter_of(samples, own_part):
    """How far the other samples lie from the first, one's own precision's part at least."""
    offsets = [sample.offset for sample in samples]
    return max(spread(offsets[0], offsets), own_part)


class View:
    """What one with samples says now, and the span from low to high that it allows."""

    def __init__(self, other, now, precision):
        samples = by_delay(other.samples)
        gone = less(now, other.samples[0].time)
        self.stratum = other.stratum
        self.offset = samples[0].offset
        self.delay = samples[0].delay
        self.dispersion = dispersion_of(samples, age(gone))
        self.jitter = jitter_of(samples, part_of_second(precision))
        halved = (self.delay + other.root_delay) // 2
        self.distance = halved + self.dispersion + other.root_dispersion + self.jitter
        self.fit = other.reach != 0 and self.distance < FIT_LIMIT
        self.low = self.offset - self.distance
        self.high = self.offset + self.distance
