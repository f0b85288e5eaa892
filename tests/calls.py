"""What the tests share: calls as lists of numbers, and messages worked out another way."""

import struct

from soundboard.desk import answers

TIME_END = 2 ** 48


def start(channels, buses):
    return [0, channels, buses]


def turn(channel, bus, gain, fade, time):
    return [1, channel, bus, gain, fade, time]


def keep(scene):
    return [2, scene]


def go(scene, fade, time):
    return [3, scene, fade, time]


def seal(time):
    return [4, time]


def again(number):
    return [5, number]


def begin(board, channels, buses):
    return [6, board, channels, buses]


def hear(board, message):
    return [7, board, len(message), *message]


def lacks(board):
    return [8, board]


def gain(board, channel, bus, time):
    return [9, board, channel, bus, time]


def mix(board, time, samples):
    return [10, board, time, len(samples), *samples]


def parts(answered):
    """The answers one by one, each a list of numbers."""
    found = []
    place = 0
    while place < len(answered):
        count = answered[place]
        found.append(answered[place + 1:place + 1 + count])
        assert len(found[-1]) == count
        place += 1 + count
    return found


def run(*calls):
    """The answer of each call, as a list of numbers."""
    numbers = [number for call in calls for number in call]
    # More than this is never handed in.
    assert len(calls) <= 1000 and len(numbers) <= 16000
    found = parts(answers(numbers))
    assert len(found) == len(calls)
    return found


def last(*calls):
    return run(*calls)[-1]


def firsts(*calls):
    """The number that each call answers first."""
    return [answer[0] for answer in run(*calls)]


def crc_32c(octets):
    """By long division of the whole row of bits, high bit first: not the way the program takes."""
    bits = "".join(format(octet, "08b")[::-1] for octet in octets) + "0" * 32
    rest = int(bits, 2) ^ (0xFFFFFFFF << (len(bits) - 32))
    while rest.bit_length() > 32:
        rest ^= 0x11EDC6F41 << (rest.bit_length() - 33)
    return int(format(rest, "032b")[::-1], 2) ^ 0xFFFFFFFF


def with_check(octets):
    return list(octets + struct.pack("<I", crc_32c(octets)))


def order_message(number, channel, bus, gain, fade, time, kind=1, zero=0):
    """An order's message with a check that is right, whatever it tells."""
    return with_check(struct.pack("<BBBBIQII", kind, channel, bus, zero, number, time, gain, fade))


def seal_message(number, time, kind=2):
    """A seal's message with a check that is right, whatever it tells."""
    return with_check(struct.pack("<BBBBIQQ", kind, 0, 0, 0, number, time, 0))


def order(number, channel, bus, gain, fade, time):
    """What is answered when an order is told: its number and its message."""
    return [number] + order_message(number, channel, bus, gain, fade, time)


def sealing(number, time):
    """What is answered when a seal is made: how many orders there are and its message."""
    return [number] + seal_message(number, time)


def filled(count):
    """Calls that leave a desk of 32 by 8 with that many orders, 256 or more, all at time 0.

    Scene 0 has all gains at 0, scene 1 all at 1; scene 2 is scene 1 but for the last gain,
    scene 3 but for the last two. At the end all gains go to 1 if count // 256 is odd, else to 0.
    """
    calls = [start(32, 8), keep(0)]
    calls += [turn(0, 0, 0, 0, 0)] * (count % 256)
    for place in range(256):
        if place == 254:
            calls.append(keep(3))
        if place == 255:
            calls.append(keep(2))
        calls.append(turn(place // 8, place % 8, 1, 0, 0))
    calls.append(keep(1))
    calls += [go(turned % 2, 0, 0) for turned in range(count // 256 - 1)]
    return calls
