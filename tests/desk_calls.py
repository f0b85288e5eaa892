"""What the tests of the desk share: calls as lists of numbers, and messages worked out another way."""

import struct

from soundboard.desk import answers

TIME_END = 2 ** 48


def start(channels, buses):
    return [0, channels, buses]


def turn(channel, bus, gain, fade, time):
    return [1, channel, bus, gain, fade, time]


def keep(scene):
    return [2, scene]


def go(scene, fade, time):
    return [3, scene, fade, time]


def seal(time):
    return [4, time]


def again(number):
    return [5, number]


def parts(answered):
    """The answers one by one, each a list of numbers."""
    found = []
    place = 0
    while place < len(answered):
        count = answered[place]
        found.append(answered[place + 1:place + 1 + count])
        assert len(found[-1]) == count
        place += 1 + count
    return found


def run(*calls):
    """The answer of each call, as a list of numbers."""
    found = parts(answers([number for call in calls for number in call]))
    assert len(found) == len(calls)
    return found


def last(*calls):
    return run(*calls)[-1]


def firsts(*calls):
    """The number that each call answers first."""
    return [answer[0] for answer in run(*calls)]


def crc_32c(octets):
    """By long division of the whole row of bits, high bit first: not the way the program takes."""
    bits = "".join(format(octet, "08b")[::-1] for octet in octets) + "0" * 32
    rest = int(bits, 2) ^ (0xFFFFFFFF << (len(bits) - 32))
    while rest.bit_length() > 32:
        rest ^= 0x11EDC6F41 << (rest.bit_length() - 33)
    return int(format(rest, "032b")[::-1], 2) ^ 0xFFFFFFFF


def with_check(octets):
    return list(octets + struct.pack("<I", crc_32c(octets)))


def order(number, channel, bus, gain, fade, time):
    """What is answered when an order is told: its number and its message."""
    return [number] + with_check(struct.pack("<BBBBIQII", 1, channel, bus, 0, number, time, gain, fade))


def sealing(number, time):
    """What is answered when a seal is made: how many orders there are and its message."""
    return [number] + with_check(struct.pack("<BBBBIQQ", 2, 0, 0, 0, number, time, 0))


def filled(count):
    """Calls that leave a desk of 32 by 8 with that many orders, 256 or more, all at time 0.

    Scene 0 has all gains at 0, scene 1 all at 1; scene 2 is scene 1 but for the last gain,
    scene 3 but for the last two. At the end all gains go to 1 if count // 256 is odd, else to 0.
    """
    calls = [start(32, 8), keep(0)]
    calls += [turn(0, 0, 0, 0, 0)] * (count % 256)
    for place in range(256):
        if place == 254:
            calls.append(keep(3))
        if place == 255:
            calls.append(keep(2))
        calls.append(turn(place // 8, place % 8, 1, 0, 0))
    calls.append(keep(1))
    calls += [go(turned % 2, 0, 0) for turned in range(count // 256 - 1)]
    return calls
