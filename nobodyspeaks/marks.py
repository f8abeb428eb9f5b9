"""Marks: sets of channels, told as numbers. A channel c that is in the set adds 2 ** c."""


def join(one, two):
    """The mark with the channels of both."""
    return one | two


def within(one, two):
    """True if each channel of the first mark is one of the second."""
    return one | two == two


def channels_of(mark):
    """The list of the channels of a mark, rising."""
    return [channel for channel in range(mark.bit_length()) if mark >> channel & 1]
