"""The desk, and the list of calls on it and on two boards that is answered one behind another."""

from soundboard.board import Board
from soundboard.bounds import (
    FADE_MOST, NO_ROOM, NOT_AS_TOLD, NOT_THERE, ORDERS_MOST, TIME_END, TOO_EARLY, UNIT, sizes_as_told,
)
from soundboard.message import Order, Seal, order_message, seal_message

SCENES = 16

SD_START = 0
SD_SET = 1
SD_KEEP = 2
SD_GO = 3
SD_SEAL = 4
SD_AGAIN = 5
SB_START = 6
SB_HEARD = 7
SB_LACKS = 8
SB_GAIN = 9
SB_MIX = 10

# How many whole numbers stand behind each call's own number, a row and its count aside.
NUMBERS_BEHIND = (2, 5, 1, 3, 1, 1, 3, 1, 1, 4, 2)


class Desk:
    """Its methods that begin with sd_ answer a list: the number that's answered first, then what else is."""

    def __init__(self):
        self.begin(0, 0)

    def begin(self, channels, buses):
        self.channels = channels
        self.buses = buses
        self.orders = []
        self.sealed = 0
        self.latest = 0
        # Gains stand channel by channel, of each bus by bus, since that's how sd_go makes its orders.
        self.goals = [0] * (channels * buses)
        self.goal_times = [0] * (channels * buses)
        self.scenes = {}

    def sd_start(self, channels, buses):
        if not sizes_as_told(channels, buses):
            return [NOT_AS_TOLD]
        self.begin(channels, buses)
        return [0]

    def sd_set(self, channel, bus, gain, fade, time):
        if channel >= self.channels or bus >= self.buses or gain > UNIT:
            return [NOT_AS_TOLD]
        if fade > FADE_MOST or time >= TIME_END:
            return [NOT_AS_TOLD]
        if time < self.sealed:
            return [TOO_EARLY]
        if len(self.orders) >= ORDERS_MOST:
            return [NO_ROOM]
        number = len(self.orders)
        self.add_order(Order(number, time, channel, bus, gain, fade))
        return self.sd_again(number)

    def sd_keep(self, scene):
        if scene >= SCENES:
            return [NOT_AS_TOLD]
        self.scenes[scene] = list(self.goals)
        return [0]

    def sd_go(self, scene, fade, time):
        if scene >= SCENES or fade > FADE_MOST or time >= TIME_END:
            return [NOT_AS_TOLD]
        if scene not in self.scenes:
            return [NOT_THERE]
        if time < self.sealed or time < self.latest:
            return [TOO_EARLY]
        kept = self.scenes[scene]
        changed = [place for place in range(len(kept)) if kept[place] != self.goals[place]]
        if len(self.orders) + len(changed) > ORDERS_MOST:
            return [NO_ROOM]
        for place in changed:
            channel = place // self.buses
            bus = place % self.buses
            self.add_order(Order(len(self.orders), time, channel, bus, kept[place], fade))
        return [len(changed)]

    def sd_seal(self, time):
        if time > TIME_END:
            return [NOT_AS_TOLD]
        if time < self.sealed:
            return [TOO_EARLY]
        self.sealed = time
        return [len(self.orders)] + seal_message(Seal(len(self.orders), time))

    def sd_again(self, number):
        if number >= len(self.orders):
            return [NOT_THERE]
        return [number] + order_message(self.orders[number])

    def add_order(self, order):
        self.orders.append(order)
        self.latest = max(self.latest, order.time)
        place = order.channel * self.buses + order.bus
        # Of orders for like times the one with the greater number is the last, and this one's is the greatest.
        if order.time >= self.goal_times[place]:
            self.goal_times[place] = order.time
            self.goals[place] = order.gain


def desk_answer(desk, call, numbers):
    if call == SD_START:
        return desk.sd_start(numbers[0], numbers[1])
    if call == SD_SET:
        return desk.sd_set(numbers[0], numbers[1], numbers[2], numbers[3], numbers[4])
    if call == SD_KEEP:
        return desk.sd_keep(numbers[0])
    if call == SD_GO:
        return desk.sd_go(numbers[0], numbers[1], numbers[2])
    if call == SD_SEAL:
        return desk.sd_seal(numbers[0])
    return desk.sd_again(numbers[0])


def board_answer(board, call, numbers, row):
    if call == SB_START:
        return board.sb_start(numbers[0], numbers[1])
    if call == SB_HEARD:
        return board.sb_heard(row)
    if call == SB_LACKS:
        return board.sb_lacks()
    if call == SB_GAIN:
        return board.sb_gain(numbers[0], numbers[1], numbers[2])
    return board.sb_mix(row, numbers[0])


def answers(calls):
    """Answer the calls on a new desk and new boards 0 and 1: for each how many numbers are answered, then these."""
    desk = Desk()
    boards = [Board(), Board()]
    answered = []
    place = 0
    while place < len(calls):
        call = calls[place]
        behind = place + 1 + NUMBERS_BEHIND[call]
        numbers = calls[place + 1:behind]
        row = []
        if call in (SB_HEARD, SB_MIX):
            row = calls[behind + 1:behind + 1 + calls[behind]]
            behind += 1 + len(row)
        if call < SB_START:
            answer = desk_answer(desk, call, numbers)
        else:
            answer = board_answer(boards[numbers[0]], call, numbers[1:], row)
        answered.append(len(answer))
        answered.extend(answer)
        place = behind
    return answered
