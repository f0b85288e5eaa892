"""Orders and seals as messages of 28 bytes, and the bounds of what these may tell."""

CHANNELS_MOST = 32
BUSES_MOST = 8
ORDERS_MOST = 4096
UNIT = 65536
FADE_MOST = 480000
# 2^48: samples are counted below it; a seal may stand at it.
TIME_END = 281474976710656

ORDER_KIND = 1
SEAL_KIND = 2

ALL_ONES = 0xFFFFFFFF
POLYNOMIAL = 0x82F63B78


class Order:
    """From its time on a channel's gain on a bus goes to a new one, over as many samples as the fade says."""

    def __init__(self, number, time, channel, bus, gain, fade):
        self.number = number
        self.time = time
        self.channel = channel
        self.bus = bus
        self.gain = gain
        self.fade = fade


def low_byte_first(number, size):
    return [(number >> (8 * place)) & 255 for place in range(size)]


def check_of(octets):
    """CRC-32C of a list of bytes."""
    rest = ALL_ONES
    for octet in octets:
        rest = rest ^ octet
        for bit in range(8):
            rest = (rest >> 1) ^ POLYNOMIAL if rest & 1 else rest >> 1
    return rest ^ ALL_ONES


def with_check(octets):
    return octets + low_byte_first(check_of(octets), 4)


def order_message(order):
    head = [ORDER_KIND, order.channel, order.bus, 0]
    when = low_byte_first(order.number, 4) + low_byte_first(order.time, 8)
    what = low_byte_first(order.gain, 4) + low_byte_first(order.fade, 4)
    return with_check(head + when + what)


def seal_message(number, time):
    head = [SEAL_KIND, 0, 0, 0]
    return with_check(head + low_byte_first(number, 4) + low_byte_first(time, 8) + [0] * 8)
