"""The interface: the form of the calls and answers, and desk and boards against plain ones over many calls."""

import math
import random
import struct
import unittest
from fractions import Fraction

from calls import (
    TIME_END, again, begin, crc_32c, gain, go, hear, keep, lacks, mix, order, order_message, parts, run, seal,
    seal_message, sealing, start, turn, with_check,
)
from soundboard.desk import answers


class ReadOnly(list):
    """A list that fails whoever changes it, even for a while."""

    def refuse(self, *given, **named):
        raise AssertionError("what was handed in is changed")

    __setitem__ = __delitem__ = __iadd__ = __imul__ = refuse
    append = clear = extend = insert = pop = remove = reverse = sort = refuse


EVERYTHING = (start(0, 0) + start(3, 2) + keep(0) + turn(2, 1, 500, 20, 30) + turn(3, 0, 0, 0, 0) + go(0, 9, 30)
              + seal(31) + again(1) + again(2) + go(5, 0, 0))

HEARD = order_message(1, 1, 1, 65536, 0, 10)
ALL_CALLS = (begin(1, 2, 2) + start(0, 0) + start(3, 2) + hear(1, HEARD) + keep(0) + mix(1, 0, [3] * 96)
             + begin(0, 0, 0) + turn(2, 1, 500, 20, 30) + hear(1, HEARD[:27] + [0]) + lacks(1) + begin(0, 1, 1)
             + hear(0, seal_message(3, 48)) + lacks(0) + go(0, 9, 30) + gain(1, 1, 1, 10) + mix(1, 7, [1, 2])
             + seal(31) + gain(1, 2, 1, 10) + mix(0, 0, []) + again(1) + hear(1, HEARD))


class Form(unittest.TestCase):

    def test_how_many_then_these(self):
        expected = [1, -22, 1, 0, 1, 0, 29] + order(0, 2, 1, 500, 20, 30) + [1, -22, 1, 1]
        expected += [29] + sealing(2, 31) + [29] + order(1, 2, 1, 0, 9, 30) + [1, -2, 1, -2]
        self.assertEqual(answers(EVERYTHING), expected)

    def test_desk_and_boards_in_one_list(self):
        expected = [1, 0, 1, -22, 1, 0, 1, 1, 1, 0]
        expected += [385, 1000] + [0] * 48 + [0] * 10 + [3] * 38 + [0] * 288
        expected += [1, -22, 29] + order(0, 2, 1, 500, 20, 30) + [1, -71, 1, -11, 1, 0, 1, 1, 1, 0, 1, 1, 1, 65536]
        expected += [1, -22, 29] + sealing(2, 31) + [1, -22, 385, 1000] + [0] * 384
        expected += [29] + order(1, 2, 1, 0, 9, 30) + [1, 0]
        self.assertEqual(answers(ALL_CALLS), expected)

    def test_calls_of_a_board_by_hand(self):
        self.assertEqual(answers([6, 0, 1, 1]), [1, 0])
        self.assertEqual(answers([6, 1, 33, 1]), [1, -22])
        self.assertEqual(answers([6, 0, 1, 1, 8, 0]), [1, 0, 1, -11])
        self.assertEqual(answers([6, 1, 1, 1, 9, 1, 0, 0, 5]), [1, 0, 1, 0])
        self.assertEqual(answers([6, 1, 1, 1, 9, 1, 1, 0, 5]), [1, 0, 1, -22])
        self.assertEqual(answers([6, 0, 1, 1, 10, 0, 48, 0]), [1, 0, 385, 1000] + [0] * 384)
        self.assertEqual(answers([6, 0, 1, 1, 10, 0, 47, 2, 7, 8, 8, 0]), [1, 0, 1, -22, 1, -11])
        self.assertEqual(answers([
            6, 0, 1, 1, 7, 0, 28, 1, 0, 0, 0, 0, 0, 0, 0, 0, 0, 0, 0, 0, 0, 0, 0, 0, 0, 0, 0, 0, 0, 0, 0,
            0x60, 0x2E, 0xB4, 0x3E, 8, 0]), [1, 0, 1, 1, 1, -11])

    def test_one_call(self):
        self.assertEqual(answers([0, 1, 1]), [1, 0])
        self.assertEqual(answers([0, 4294967295, 1]), [1, -22])

    def test_whole_numbers_in_a_list(self):
        for calls in (EVERYTHING, ALL_CALLS):
            answered = answers(calls)
            self.assertIs(type(answered), list)
            self.assertEqual({type(number) for number in answered}, {int})

    def test_a_thousand_calls(self):
        calls = start(32, 8) + turn(31, 7, 1, 1, 1) * 999
        self.assertEqual(parts(answers(calls))[999], order(998, 31, 7, 1, 1, 1))

    def test_a_thousand_mixes(self):
        calls = begin(0, 32, 8) + mix(0, 48, [5] * 11) * 999
        self.assertEqual(answers(calls), [1, 0] + ([385, 1000] + [0] * 384) * 999)

    def test_as_many_orders_as_can_be_heard(self):
        messages = [order_message(number, 0, 0, 65536 * (number % 2), 480000, 1000 - number) for number in range(510)]
        calls = begin(1, 1, 1) + [number for message in messages for number in hear(1, message)]
        calls += hear(1, seal_message(511, 0)) + lacks(1) + gain(1, 0, 0, 490)
        self.assertLessEqual(len(calls), 16000)
        self.assertEqual(parts(answers(calls))[511:], [[1], [510], [0]])


class HandedIn(unittest.TestCase):

    def test_is_as_it_was(self):
        for handed in (EVERYTHING, ALL_CALLS):
            calls = list(handed)
            answers(calls)
            self.assertEqual(calls, handed)

    def test_is_never_changed(self):
        for handed in (EVERYTHING, ALL_CALLS):
            self.assertEqual(answers(ReadOnly(handed)), answers(handed))

    def test_what_is_given_back_is_another_list(self):
        calls = list(EVERYTHING)
        answered = answers(calls)
        answered.clear()
        self.assertEqual(calls, EVERYTHING)


class NothingKept(unittest.TestCase):

    def test_twice_the_same(self):
        self.assertEqual(answers(EVERYTHING), answers(EVERYTHING))
        self.assertEqual(answers(ALL_CALLS), answers(ALL_CALLS))

    def test_boards_as_if_for_the_first_time(self):
        whole = [hear(0, order_message(0, 0, 0, 65536, 0, 0)), hear(0, seal_message(1, 96))]
        asked = [gain(0, 0, 0, 0), lacks(0), mix(0, 0, [7] * 48), hear(0, seal_message(1, 1)), whole[0], lacks(0)]
        expected = [[0], [0], [-11], [1000] + [0] * 384, [1], [1], [-11]]
        self.assertEqual(run(begin(0, 2, 2), *asked), expected)
        run(begin(0, 2, 2), *whole, begin(1, 2, 2), hear(1, seal_message(9, 96)))
        self.assertEqual(run(begin(0, 2, 2), *asked), expected)
        self.assertEqual(run(begin(1, 2, 2), lacks(1)), [[0], [-11]])

    def test_as_if_for_the_first_time(self):
        answers(start(1, 1) + turn(0, 0, 5, 0, 10) + keep(0) + seal(100))
        answered = parts(answers(start(1, 1) + go(0, 0, 100) + again(0) + turn(0, 0, 5, 0, 9) + seal(0)))
        self.assertEqual(answered, [[0], [-2], [-2], order(0, 0, 0, 5, 0, 9), sealing(1, 0)])

    def test_what_was_given_back_may_be_changed(self):
        first = answers(EVERYTHING)
        expected = list(first)
        first.reverse()
        self.assertEqual(answers(EVERYTHING), expected)


class PlainDesk:
    """The document's words with nothing remembered but the orders themselves."""

    def __init__(self):
        self.replace(0, 0)

    def replace(self, channels, buses):
        self.channels, self.buses = channels, buses
        self.orders, self.sealed, self.scenes = [], 0, {}

    def goes(self, channel, bus):
        own = [(made[4], number, made[2]) for number, made in enumerate(self.orders) if made[:2] == (channel, bus)]
        return max(own)[2] if own else 0

    def all_goes(self):
        return {(channel, bus): self.goes(channel, bus)
                for channel in range(self.channels) for bus in range(self.buses)}

    def call(self, number, *given):
        return (self.start, self.turn, self.keep, self.go, self.seal, self.again)[number](*given)

    def start(self, channels, buses):
        if channels not in range(1, 33) or buses not in range(1, 9):
            return [-22]
        self.replace(channels, buses)
        return [0]

    def turn(self, channel, bus, gain, fade, time):
        if not (channel < self.channels and bus < self.buses and gain <= 65536 and fade <= 480000
                and time < TIME_END):
            return [-22]
        if time < self.sealed:
            return [-13]
        if len(self.orders) == 4096:
            return [-28]
        self.orders.append((channel, bus, gain, fade, time))
        return self.again(len(self.orders) - 1)

    def keep(self, scene):
        if scene > 15:
            return [-22]
        self.scenes[scene] = self.all_goes()
        return [0]

    def go(self, scene, fade, time):
        if scene > 15 or fade > 480000 or time >= TIME_END:
            return [-22]
        if scene not in self.scenes:
            return [-2]
        if time < self.sealed or any(time < made[4] for made in self.orders):
            return [-13]
        now = self.all_goes()
        new = [(*key, gain, fade, time) for key, gain in sorted(self.scenes[scene].items()) if now[key] != gain]
        if len(self.orders) + len(new) > 4096:
            return [-28]
        self.orders += new
        return [len(new)]

    def seal(self, time):
        if time > TIME_END:
            return [-22]
        if time < self.sealed:
            return [-13]
        self.sealed = time
        return sealing(len(self.orders), time)

    def again(self, number):
        return order(number, *self.orders[number]) if number < len(self.orders) else [-2]


class PlainBoard:
    """The document's words with nothing remembered but the messages themselves, and fractions for the fades."""

    def __init__(self):
        self.replace(0, 0)

    def replace(self, channels, buses):
        self.channels, self.buses = channels, buses
        self.orders, self.seals = {}, [(0, 0)]

    def call(self, number, *given):
        return (self.start, self.heard, self.lacks, self.gain, self.mix)[number - 6](*given)

    def start(self, channels, buses):
        if channels not in range(1, 33) or buses not in range(1, 9):
            return [-22]
        self.replace(channels, buses)
        return [0]

    def heard(self, count, *message):
        octets = bytes(message)
        if count != 28 or octets[24:] != struct.pack("<I", crc_32c(octets[:24])):
            return [-71]
        if octets[0] == 1:
            return [self.heard_order(*struct.unpack("<BBBIQII", octets[1:24]))]
        if octets[0] == 2:
            return [self.heard_seal(*struct.unpack("<3sIQ8s", octets[1:24]))]
        return [-71]

    def heard_order(self, channel, bus, zero, number, time, gain, fade):
        if (channel > 31 or bus > 7 or zero != 0 or number > 4095 or time >= TIME_END or gain > 65536
                or fade > 480000):
            return -71
        if number in self.orders:
            return 0
        self.orders[number] = (channel, bus, time, gain, fade)
        return 1

    def heard_seal(self, zeros, number, time, more):
        if any(zeros) or any(more) or number > 4096 or time > TIME_END:
            return -71
        if (time, number) <= max(self.seals):
            return 0
        self.seals.append((time, number))
        return 1

    def lacks(self):
        lacking = set(range(max(self.seals)[1])) - set(self.orders)
        return [min(lacking) if lacking else -11]

    def gain_at(self, channel, bus, time, before=(TIME_END, 0)):
        """By the orders that stand ahead of before, which is a time and a number."""
        own = [(order[2], number) for number, order in self.orders.items()
               if order[:2] == (channel, bus) and order[2] <= time and (order[2], number) < before]
        if not own:
            return 0
        begun, number = max(own)
        goal, fade = self.orders[number][3:]
        if time >= begun + fade:
            return goal
        first = self.gain_at(channel, bus, begun, max(own))
        return math.floor(first + Fraction((goal - first) * (time - begun), fade))

    def gain(self, channel, bus, time):
        if not (channel < self.channels and bus < self.buses and time < TIME_END):
            return [-22]
        return [self.gain_at(channel, bus, time)]

    def mix(self, time, count, *samples):
        if time % 48 or time >= TIME_END:
            return [-22]
        padded = list(samples) + [0] * 1536
        sums = [sum(padded[48 * channel + sample] * self.gain_at(channel, bus, time + sample)
                    for channel in range(self.channels))
                for bus in range(self.buses) for sample in range(48)]
        values = [math.floor(Fraction(total, 65536)) for total in sums]
        out = [sorted((-8388608, value, 8388607))[1] for value in values]
        whole = max(self.seals)[0] >= time + 48 and self.lacks() == [-11]
        cuts = sum(a != b for a, b in zip(values, out))
        return [cuts + (0 if whole else 1000)] + out + [0] * (384 - len(out))


def random_call(chance, low):
    """A call near the edges; low is a time that most calls stand close to."""
    time = chance.choice((low, low, low + 1, low + chance.randrange(20), max(low - 1, 0), 0))
    gain = chance.choice((0, 0, 1, 2, 65536, 65537 if chance.random() < 0.1 else 3))
    fade = chance.choice((0, 1, 20, 480000, 480001 if chance.random() < 0.1 else 2))
    scene = chance.choice((0, 1, 15, 16 if chance.random() < 0.1 else 2))
    made = chance.choices("turn keep go seal again start".split(), (50, 12, 25, 3, 9, 1))[0]
    if made == "turn":
        return turn(chance.randrange(4), chance.randrange(3), gain, fade, time)
    if made == "keep":
        return keep(scene)
    if made == "go":
        return go(scene, fade, time)
    if made == "seal":
        return seal(time)
    if made == "again":
        return again(chance.randrange(60))
    return start(chance.choice((0, 3, 4, 33)), chance.choice((2, 3, 9)))


class AgainstPlainDesk(unittest.TestCase):

    def test_many_calls(self):
        for seed in range(60):
            chance = random.Random(seed)
            calls = [start(chance.randrange(1, 5), chance.randrange(1, 4))]
            low = chance.choice((0, 5, TIME_END - 30))
            for step in range(120):
                low += chance.choice((0, 0, 0, 1))
                calls.append(random_call(chance, low))
            plain = PlainDesk()
            expected = [plain.call(*call) for call in calls]
            answered = parts(answers([number for call in calls for number in call]))
            self.assertEqual(answered, expected, f"seed {seed}")


def spoiled(chance, message):
    """The message with one byte changed, some of these with a check that is right for that."""
    wrong = list(message)
    wrong[chance.randrange(28)] ^= 1 << chance.randrange(8)
    return wrong if chance.random() < 0.3 else with_check(bytes(wrong[:24]))


def random_board_call(chance, low, messages):
    """A call of a board near the edges; messages are those that the desk has answered so far."""
    board = chance.randrange(2)
    made = chance.choices("hear spoiled lacks gain mix begin".split(), (60, 10, 8, 25, 12, 1))[0]
    if made in ("hear", "spoiled") and messages:
        message = chance.choice(messages)
        return hear(board, message if made == "hear" else spoiled(chance, message))
    if made == "gain":
        return gain(board, chance.randrange(5), chance.randrange(4), low + chance.randrange(-2, 60))
    if made == "mix":
        time = low // 48 * 48 + chance.choice((0, 0, 0, 48, -48, 1))
        count = chance.choice((0, 1, 47, 48, 49, 100, 192, 200))
        size = chance.choice((2, 1000, 2 ** 23, 2 ** 31))
        return mix(board, max(time, 0), [chance.randrange(-size, size) for place in range(count)])
    if made == "begin":
        return begin(board, chance.choice((0, 2, 4, 33)), chance.choice((1, 3, 9)))
    return lacks(board)


class AgainstPlainDeskAndBoards(unittest.TestCase):

    def test_many_calls(self):
        for seed in range(40):
            chance = random.Random(1000 + seed)
            calls = [start(4, 3), begin(0, 4, 3), begin(1, chance.randrange(1, 5), chance.randrange(1, 4))]
            plain, boards, expected, messages = PlainDesk(), (PlainBoard(), PlainBoard()), [], []
            low = chance.choice((2, 500, TIME_END - 120))
            for step in range(150):
                low += chance.choice((0, 0, 0, 1))
                calls.append(random_call(chance, low) if chance.random() < 0.3
                             else random_board_call(chance, low, messages))
                while len(expected) < len(calls):
                    number, *given = calls[len(expected)]
                    answer = plain.call(number, *given) if number < 6 else boards[given[0]].call(number, *given[1:])
                    expected.append(answer)
                    messages += [answer[1:]] * (len(answer) == 29)
            self.assertEqual(run(*calls), expected, f"seed {seed}")


if __name__ == "__main__":
    unittest.main()
