"""Orders and seals as messages of 28 bytes, written and read."""

from soundboard.bounds import BUSES_MOST, CHANNELS_MOST, FADE_MOST, ORDERS_MOST, TIME_END, UNIT

ORDER_KIND = 1
SEAL_KIND = 2

ALL_ONES = 0xFFFFFFFF
POLYNOMIAL = 0x82F63B78


class Order:
    """From its time on a channel's gain on a bus goes to a new one, over as many samples as the fade says."""

    def __init__(self, number, time, channel, bus, gain, fade):
        self.number = number
        self.time = time
        self.channel = channel
        self.bus = bus
        self.gain = gain
        self.fade = fade


class Seal:
    """Whatever orders there are for samples before its time have numbers below its number."""

    def __init__(self, number, time):
        self.number = number
        self.time = time


def low_byte_first(number, size):
    return [(number >> (8 * place)) & 255 for place in range(size)]


def number_at(octets, start, size):
    return sum([octets[start + place] << (8 * place) for place in range(size)])


def check_of(octets):
    """CRC-32C of a list of bytes."""
    rest = ALL_ONES
    for octet in octets:
        rest = rest ^ octet
        for bit in range(8):
            rest = (rest >> 1) ^ POLYNOMIAL if rest & 1 else rest >> 1
    return rest ^ ALL_ONES


def with_check(octets):
    return octets + low_byte_first(check_of(octets), 4)


def order_message(order):
    head = [ORDER_KIND, order.channel, order.bus, 0]
    when = low_byte_first(order.number, 4) + low_byte_first(order.time, 8)
    what = low_byte_first(order.gain, 4) + low_byte_first(order.fade, 4)
    return with_check(head + when + what)


def seal_message(seal):
    head = [SEAL_KIND, 0, 0, 0]
    return with_check(head + low_byte_first(seal.number, 4) + low_byte_first(seal.time, 8) + [0] * 8)


def order_as_told(order):
    if order.channel >= CHANNELS_MOST or order.bus >= BUSES_MOST or order.number >= ORDERS_MOST:
        return False
    return order.time < TIME_END and order.gain <= UNIT and order.fade <= FADE_MOST


def seal_as_told(seal):
    return seal.number <= ORDERS_MOST and seal.time <= TIME_END


def read_message(octets):
    """The Order or Seal that a message tells, or None if the message isn't right.

    What was read is written once more: only if that's the same message are its check and each 0 as told.
    """
    number = number_at(octets, 4, 4)
    time = number_at(octets, 8, 8)
    if octets[0] == ORDER_KIND:
        order = Order(number, time, octets[1], octets[2], number_at(octets, 16, 4), number_at(octets, 20, 4))
        return order if order_as_told(order) and order_message(order) == octets else None
    if octets[0] == SEAL_KIND:
        seal = Seal(number, time)
        return seal if seal_as_told(seal) and seal_message(seal) == octets else None
    return None
