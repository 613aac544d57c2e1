"""The packets of 48 bytes, whose numbers have the highest byte first."""

PACKET_SIZE = 48
ASKING_VERSION = 4
ASKING_MODE = 3


def bytes_of(number, size):
    """The lowest bytes of a number, as many as size, the highest of them first."""
    return [(number >> (8 * place)) & 255 for place in range(size - 1, -1, -1)]


def number_at(row, start, size):
    """The number without sign that lies in a row's bytes from start on."""
    number = 0
    for byte in row[start:start + size]:
        number = number * 256 + byte
    return number


def with_sign(byte):
    """A byte read as a number from -128 to 127."""
    if byte >= 128:
        return byte - 256
    return byte


def asking_packet(precision, now):
    """The 48 bytes by which another is asked now."""
    head = [ASKING_VERSION << 3 | ASKING_MODE, 0, 0, precision & 255]
    return head + [0] * 36 + bytes_of(now, 8)


class Packet:
    """What the 48 bytes of an answer say; the root delay and dispersion in 2^-16 seconds."""

    def __init__(self, row):
        self.leap = row[0] >> 6
        self.version = (row[0] >> 3) & 7
        self.mode = row[0] & 7
        self.stratum = row[1]
        self.precision = with_sign(row[3])
        self.root_delay = number_at(row, 4, 4)
        self.root_dispersion = number_at(row, 8, 4)
        self.origin = number_at(row, 24, 8)
        self.received = number_at(row, 32, 8)
        self.sent = number_at(row, 40, 8)
