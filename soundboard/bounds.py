"""The bounds of what may be told, and the numbers of the refusals."""

CHANNELS_MOST = 32
BUSES_MOST = 8
ORDERS_MOST = 4096
UNIT = 65536
FADE_MOST = 480000
# 2^48: samples are counted below it; a seal may stand at it.
TIME_END = 281474976710656

NOT_THERE = -2
NONE_LACKS = -11
TOO_EARLY = -13
NOT_AS_TOLD = -22
NO_ROOM = -28
NOT_RIGHT = -71


def sizes_as_told(channels, buses):
    return 1 <= channels <= CHANNELS_MOST and 1 <= buses <= BUSES_MOST
