"""What is true: where most of those that are fit can be right together."""


class Truth:
    """The offsets from low to high, if so many of those that are fit are wrong."""

    def __init__(self, low, high, wrong):
        self.low = low
        self.high = high
        self.wrong = wrong


def holds(span, offset):
    """Whether an offset is from a span's low to its high."""
    return span.low <= offset and offset <= span.high


def within(truth, views):
    """Those whose offsets are true."""
    return [view for view in views if holds(truth, view.offset)]


def how_many_hold(views, end):
    """How many of the spans contain an end."""
    return len([view for view in views if holds(view, end)])


def held_by(views, ends, needed):
    """Those of the ends that at least so many spans contain."""
    return [end for end in ends if how_many_hold(views, end) >= needed]


def truth_with(views, wrong):
    """What is true if so many are wrong; None if that can't be."""
    needed = len(views) - wrong
    lows = held_by(views, [view.low for view in views], needed)
    highs = held_by(views, [view.high for view in views], needed)
    if len(lows) == 0 or len(highs) == 0:
        return None
    truth = Truth(min(lows), max(highs), wrong)
    if truth.low > truth.high or len(within(truth, views)) < needed:
        return None
    return truth


def truth_of(views):
    """What is true if as few as can be are wrong; None if most can't be right together."""
    wrong = 0
    while 2 * wrong < len(views):
        truth = truth_with(views, wrong)
        if truth is not None:
            return truth
        wrong = wrong + 1
    return None
