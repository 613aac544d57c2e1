"""Roots in whole numbers, and how far offsets lie apart."""


def root(square):
    """The greatest number whose square isn't above the one given, which isn't below 0."""
    # From above, each step comes nearer and none falls below the root.
    guess = 1 << ((square.bit_length() + 1) // 2)
    while guess * guess > square:
        guess = (guess + square // guess) // 2
    return guess


def spread(offset, offsets):
    """How far the others among the offsets lie from one of them, as a root of squares; 0 if it is alone."""
    if len(offsets) == 1:
        return 0
    # The one itself adds nothing to the squares, but must not be counted.
    squares = [(other - offset) * (other - offset) for other in offsets]
    return root(sum(squares) // (len(offsets) - 1))
