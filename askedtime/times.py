"""Times of 64 bits that go round, and amounts of time, all in 2^-32 seconds."""

SECOND = 4294967296
WHOLE_ROUND = 18446744073709551616
HALF_ROUND = 9223372036854775808


def less(time, earlier):
    """A time less another, from -2^63 to 2^63 - 1."""
    gap = (time - earlier) % WHOLE_ROUND
    if gap >= HALF_ROUND:
        return gap - WHOLE_ROUND
    return gap


def age(gap):
    """How far a clock may have drifted in such a gap; none if time went back."""
    if gap < 0:
        return 0
    return gap * 15 // 1000000


def is_precision(precision):
    """Whether 2^precision of a second is a part that these amounts can hold."""
    return -32 <= precision and precision <= 0


def part_of_second(precision):
    """2^precision of a second, for a precision from -32 to 0."""
    return SECOND >> -precision
