"""What one answer tells: whether it is any use, and the sample that is made of it."""

from askedtime.times import age, is_precision, less, part_of_second

# 2^60, and 16 seconds in the 2^-16 seconds of a packet.
OFFSET_LIMIT = 1152921504606846976
ROOT_LIMIT = 1048576


class Sample:
    """One answer that was taken: amounts in 2^-32 seconds, and when it was taken."""

    def __init__(self, offset, delay, dispersion, time):
        self.offset = offset
        self.delay = delay
        self.dispersion = dispersion
        self.time = time


def offset_of(packet, now):
    """How far the other's clock is ahead, if the way there and back took equally long."""
    return (less(packet.received, packet.origin) + less(packet.sent, now)) // 2


def are_times_usable(packet, now):
    """Whether the packet's times are there, run forward and lie near enough."""
    if packet.received == 0 or packet.sent == 0:
        return False
    if less(packet.sent, packet.received) < 0 or less(now, packet.origin) < 0:
        return False
    return abs(offset_of(packet, now)) < OFFSET_LIMIT


def is_usable(packet, now):
    """Whether an answer to what was asked can be taken."""
    if packet.leap == 3 or packet.stratum < 1 or packet.stratum > 15:
        return False
    if not is_precision(packet.precision):
        return False
    if packet.root_delay // 2 + packet.root_dispersion >= ROOT_LIMIT:
        return False
    return are_times_usable(packet, now)


def sample_of(packet, now, precision):
    """The sample of a usable packet that came now, by one's own precision."""
    own_part = part_of_second(precision)
    gone = less(now, packet.origin)
    delay = max(gone - less(packet.sent, packet.received), own_part)
    dispersion = own_part + part_of_second(packet.precision) + age(gone)
    return Sample(offset_of(packet, now), delay, dispersion, now)


def aged(sample, more):
    """The same sample, its dispersion greater by so much."""
    return Sample(sample.offset, sample.delay, sample.dispersion + more, sample.time)
