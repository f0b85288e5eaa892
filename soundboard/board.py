"""A board: what it heard, what its gains are by that, and what comes out of its buses."""

from soundboard.bounds import NONE_LACKS, NOT_AS_TOLD, NOT_RIGHT, TIME_END, UNIT, sizes_as_told
from soundboard.message import Seal, read_message

# How many samples are put together at once, and how many numbers come out, whatever buses there are.
BLOCK = 48
OUT_SIZE = 384

LOWEST = -8388608
HIGHEST = 8388607

# Added to how many samples were cut, which are never as many.
NOT_WHOLE = 1000


class Step:
    """An order, and the gain that it begins from."""

    def __init__(self, order, begun):
        self.order = order
        self.begun = begun


def gain_by(step, time):
    """The gain by one order at a sample that isn't before it."""
    order = step.order
    past = time - order.time
    if past >= order.fade:
        return order.gain
    return step.begun + (order.gain - step.begun) * past // order.fade


def gain_along(steps, time):
    """The gain by the last order that isn't behind the sample."""
    for step in reversed(steps):
        if step.order.time <= time:
            return gain_by(step, time)
    return 0


def time_then_number(told):
    return (told.time, told.number)


def steps_of(orders):
    """The orders for one gain as they are in effect one behind another."""
    steps = []
    for order in sorted(orders, key=time_then_number):
        steps.append(Step(order, gain_along(steps, order.time)))
    return steps


class Board:
    """Its methods that begin with sb_ answer a list: the number that's answered first, then what else is."""

    def __init__(self):
        self.begin(0, 0)

    def begin(self, channels, buses):
        self.channels = channels
        self.buses = buses
        self.seal = Seal(0, 0)
        self.numbers = {}
        # The steps of each gain, by channel and bus; those that the board hasn't may be among them.
        self.gains = {}

    def sb_start(self, channels, buses):
        if not sizes_as_told(channels, buses):
            return [NOT_AS_TOLD]
        self.begin(channels, buses)
        return [0]

    def sb_heard(self, octets):
        told = read_message(octets)
        if told is None:
            return [NOT_RIGHT]
        if isinstance(told, Seal):
            return [self.hear_seal(told)]
        return [self.hear_order(told)]

    def hear_seal(self, seal):
        if time_then_number(seal) <= time_then_number(self.seal):
            return 0
        self.seal = seal
        return 1

    def hear_order(self, order):
        if order.number in self.numbers:
            return 0
        self.numbers[order.number] = True
        place = (order.channel, order.bus)
        heard = [step.order for step in self.gains.get(place, [])]
        self.gains[place] = steps_of(heard + [order])
        return 1

    def sb_lacks(self):
        for number in range(self.seal.number):
            if number not in self.numbers:
                return [number]
        return [NONE_LACKS]

    def is_whole(self, time):
        return self.seal.time >= time and self.sb_lacks() == [NONE_LACKS]

    def sb_gain(self, channel, bus, time):
        if channel >= self.channels or bus >= self.buses or time >= TIME_END:
            return [NOT_AS_TOLD]
        return [self.gain_at(channel, bus, time)]

    def gain_at(self, channel, bus, time):
        return gain_along(self.gains.get((channel, bus), []), time)

    def sb_mix(self, samples, time):
        if time >= TIME_END or time % BLOCK != 0:
            return [NOT_AS_TOLD]
        out = []
        cuts = 0
        for bus in range(self.buses):
            for value in self.bus_values(bus, samples, time):
                out.append(min(max(value, LOWEST), HIGHEST))
                if out[-1] != value:
                    cuts += 1
        first = cuts if self.is_whole(time + BLOCK) else cuts + NOT_WHOLE
        return [first] + out + [0] * (OUT_SIZE - len(out))

    def bus_values(self, bus, samples, time):
        """What comes out of a bus before it's cut."""
        sums = [0] * BLOCK
        for place in range(min(len(samples), self.channels * BLOCK)):
            sample = place % BLOCK
            sums[sample] += samples[place] * self.gain_at(place // BLOCK, bus, time + sample)
        return [total // UNIT for total in sums]
