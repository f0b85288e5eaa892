"""The desk, and the list of calls that is answered one behind another."""

from soundboard.message import (
    BUSES_MOST, CHANNELS_MOST, FADE_MOST, ORDERS_MOST, TIME_END, UNIT, Order, order_message, seal_message,
)

SCENES = 16

NOT_THERE = -2
TOO_EARLY = -13
NOT_AS_TOLD = -22
NO_ROOM = -28

# How many whole numbers stand behind a call's own number: sd_start, sd_set, sd_keep, sd_go, sd_seal, sd_again.
NUMBERS_BEHIND = (2, 5, 1, 3, 1, 1)


class Desk:
    """Its methods that begin with sd_ answer a list: the number that's answered first, then what else is."""

    def __init__(self):
        self.begin(0, 0)

    def begin(self, channels, buses):
        self.channels = channels
        self.buses = buses
        self.orders = []
        self.sealed = 0
        self.latest = 0
        # Gains stand channel by channel, of each bus by bus, since that's how sd_go makes its orders.
        self.goals = [0] * (channels * buses)
        self.goal_times = [0] * (channels * buses)
        self.scenes = {}

    def sd_start(self, channels, buses):
        if not 1 <= channels <= CHANNELS_MOST or not 1 <= buses <= BUSES_MOST:
            return [NOT_AS_TOLD]
        self.begin(channels, buses)
        return [0]

    def sd_set(self, channel, bus, gain, fade, time):
        if channel >= self.channels or bus >= self.buses or gain > UNIT:
            return [NOT_AS_TOLD]
        if fade > FADE_MOST or time >= TIME_END:
            return [NOT_AS_TOLD]
        if time < self.sealed:
            return [TOO_EARLY]
        if len(self.orders) >= ORDERS_MOST:
            return [NO_ROOM]
        number = len(self.orders)
        self.add_order(Order(number, time, channel, bus, gain, fade))
        return self.sd_again(number)

    def sd_keep(self, scene):
        if scene >= SCENES:
            return [NOT_AS_TOLD]
        self.scenes[scene] = list(self.goals)
        return [0]

    def sd_go(self, scene, fade, time):
        if scene >= SCENES or fade > FADE_MOST or time >= TIME_END:
            return [NOT_AS_TOLD]
        if scene not in self.scenes:
            return [NOT_THERE]
        if time < self.sealed or time < self.latest:
            return [TOO_EARLY]
        kept = self.scenes[scene]
        changed = [place for place in range(len(kept)) if kept[place] != self.goals[place]]
        if len(self.orders) + len(changed) > ORDERS_MOST:
            return [NO_ROOM]
        for place in changed:
            channel = place // self.buses
            bus = place % self.buses
            self.add_order(Order(len(self.orders), time, channel, bus, kept[place], fade))
        return [len(changed)]

    def sd_seal(self, time):
        if time > TIME_END:
            return [NOT_AS_TOLD]
        if time < self.sealed:
            return [TOO_EARLY]
        self.sealed = time
        return [len(self.orders)] + seal_message(len(self.orders), time)

    def sd_again(self, number):
        if number >= len(self.orders):
            return [NOT_THERE]
        return [number] + order_message(self.orders[number])

    def add_order(self, order):
        self.orders.append(order)
        self.latest = max(self.latest, order.time)
        place = order.channel * self.buses + order.bus
        # Of orders for like times the one with the greater number is the last, and this one's is the greatest.
        if order.time >= self.goal_times[place]:
            self.goal_times[place] = order.time
            self.goals[place] = order.gain


def answer_of(desk, call, numbers):
    if call == 0:
        return desk.sd_start(numbers[0], numbers[1])
    if call == 1:
        return desk.sd_set(numbers[0], numbers[1], numbers[2], numbers[3], numbers[4])
    if call == 2:
        return desk.sd_keep(numbers[0])
    if call == 3:
        return desk.sd_go(numbers[0], numbers[1], numbers[2])
    if call == 4:
        return desk.sd_seal(numbers[0])
    return desk.sd_again(numbers[0])


def answers(calls):
    """Answer the calls on a new desk: for each how many numbers are answered, then these."""
    desk = Desk()
    answered = []
    place = 0
    while place < len(calls):
        behind = place + 1 + NUMBERS_BEHIND[calls[place]]
        answer = answer_of(desk, calls[place], calls[place + 1:behind])
        answered.append(len(answer))
        answered.extend(answer)
        place = behind
    return answered
