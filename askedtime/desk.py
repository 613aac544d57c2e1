"""The desk where calls come in, one behind another, and are answered."""

from askedtime.others import Other
from askedtime.packets import PACKET_SIZE, Packet, asking_packet
from askedtime.samples import is_usable, sample_of
from askedtime.times import is_precision
from askedtime.truth import truth_of, within
from askedtime.views import View
from askedtime.weighing import by_rank, that_stay, weighed

BEGIN = 1
ASK = 2
ANSWER = 3
OTHER = 4
TRUE = 5

# How many numbers a call has, itself included; of answer, ahead of its packet.
CALL_SIZES = {1: 2, 2: 3, 3: 4, 4: 3, 5: 2, 6: 2}

HOW_MANY_OTHERS = 8
LONGEST_PACKET = 1024

DONE = 0
OUT_OF_RANGE = -2
NOT_AN_ANSWER = -3
NOT_USABLE = -4
NO_SAMPLE = -4
NO_TRUTH = -5
NOT_BEGUN = -9


def is_other(number):
    """Whether one of the others has this number."""
    return 0 <= number and number < HOW_MANY_OTHERS


class Desk:
    """All that is kept from call to call; each call gives back the list of what it answers."""

    def __init__(self):
        self.precision = None
        self.others = []

    def begin(self, precision):
        """Everything new, with one's own precision."""
        if not is_precision(precision):
            return [OUT_OF_RANGE]
        self.precision = precision
        self.others = [Other() for number in range(HOW_MANY_OTHERS)]
        return [DONE]

    def ask(self, number, now):
        """The packet that asks one of the others."""
        if not is_other(number):
            return [OUT_OF_RANGE]
        self.others[number].note_asked(now)
        return [DONE] + asking_packet(self.precision, now)

    def answer(self, number, now, row):
        """Take what one of the others answered, if it can be believed."""
        if not is_other(number) or len(row) > LONGEST_PACKET:
            return [OUT_OF_RANGE]
        if len(row) != PACKET_SIZE:
            return [NOT_AN_ANSWER]
        other = self.others[number]
        packet = Packet(row)
        if not other.is_answered_by(packet):
            return [NOT_AN_ANSWER]
        # Answered even if of no use, so that the same packet is not looked at twice.
        other.asked = None
        if not is_usable(packet, now):
            return [NOT_USABLE]
        other.take(packet, sample_of(packet, now, self.precision))
        return [DONE]

    def fit_views(self, now):
        """What each that is fit says now, in order by number."""
        views = [View(other, now, self.precision) for other in self.others if len(other.samples) > 0]
        return [view for view in views if view.fit]

    def other(self, number, now):
        """What one of the others says now."""
        if not is_other(number):
            return [OUT_OF_RANGE]
        if len(self.others[number].samples) == 0:
            return [NO_SAMPLE]
        view = View(self.others[number], now, self.precision)
        fit = 1 if view.fit else 0
        return [DONE, view.offset, view.delay, view.dispersion, view.jitter, view.distance, fit]

    def true(self, now):
        """Between which offsets the true one lies, and how many say so."""
        views = self.fit_views(now)
        truth = truth_of(views)
        if truth is None:
            return [NO_TRUTH]
        return [len(within(truth, views)), truth.low, truth.high, truth.wrong]

    def best(self, now):
        """The offset of those that are true, weighed, and how many they are."""
        views = self.fit_views(now)
        truth = truth_of(views)
        if truth is None:
            return [NO_TRUTH]
        views = that_stay(by_rank(within(truth, views)))
        return [len(views), weighed(views)]

    def reply(self, call):
        """What one call, with all its numbers, is answered."""
        kind = call[0]
        if kind == BEGIN:
            return self.begin(call[1])
        if self.precision is None:
            return [NOT_BEGUN]
        if kind == ASK:
            return self.ask(call[1], call[2])
        if kind == ANSWER:
            return self.answer(call[1], call[2], call[4:])
        if kind == OTHER:
            return self.other(call[1], call[2])
        if kind == TRUE:
            return self.true(call[1])
        return self.best(call[1])


def end_of_call(calls, start):
    """Where the call that begins at start ends."""
    end = start + CALL_SIZES[calls[start]]
    if calls[start] == ANSWER:
        return end + calls[start + 3]
    return end


def answers(calls):
    """What a list of calls on a new desk is answered, each answer behind its length."""
    desk = Desk()
    told = []
    start = 0
    while start < len(calls):
        end = end_of_call(calls, start)
        reply = desk.reply(calls[start:end])
        told.append(len(reply))
        told.extend(reply)
        start = end
    return told
