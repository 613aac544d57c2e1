"""One of the others that are asked, and what is kept of it."""

from askedtime.samples import aged
from askedtime.times import age, less

MOST_SAMPLES = 8
# From a packet's 2^-16 seconds to the 2^-32 seconds of all amounts kept.
ROOT_SCALE = 65536


class Other:
    """What was asked last (None if that is answered), its reach, and what it told."""

    def __init__(self):
        self.asked = None
        self.reach = 0
        self.stratum = 0
        self.root_delay = 0
        self.root_dispersion = 0
        self.samples = []

    def note_asked(self, now):
        """It is asked now: one more try, of which nothing has come back yet."""
        self.asked = now
        self.reach = (self.reach << 1) & 255

    def is_answered_by(self, packet):
        """Whether a packet is an answer to what was asked last."""
        if packet.mode != 4 or packet.version not in (3, 4):
            return False
        # None is no time: an origin of 0 answers only what was asked at 0.
        return self.asked is not None and packet.origin == self.asked

    def take(self, packet, sample):
        """Keep what a usable packet says, and its sample ahead of the earlier ones."""
        self.reach = self.reach | 1
        self.stratum = packet.stratum
        self.root_delay = packet.root_delay * ROOT_SCALE
        self.root_dispersion = packet.root_dispersion * ROOT_SCALE
        self.samples = [sample] + self.samples_before(sample.time)

    def samples_before(self, now):
        """The samples that stay beside a new one, older by what has gone by since the last."""
        if len(self.samples) == 0:
            return []
        more = age(less(now, self.samples[0].time))
        return [aged(sample, more) for sample in self.samples[:MOST_SAMPLES - 1]]
