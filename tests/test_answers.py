"""The interface: the form of the calls and answers, and the desk against a plain one over many calls."""

import random
import unittest

from desk_calls import TIME_END, again, go, keep, order, parts, seal, sealing, start, turn
from soundboard.desk import answers


class ReadOnly(list):
    """A list that fails whoever changes it, even for a while."""

    def refuse(self, *given, **named):
        raise AssertionError("what was handed in is changed")

    __setitem__ = __delitem__ = __iadd__ = __imul__ = refuse
    append = clear = extend = insert = pop = remove = reverse = sort = refuse


EVERYTHING = (start(0, 0) + start(3, 2) + keep(0) + turn(2, 1, 500, 20, 30) + turn(3, 0, 0, 0, 0) + go(0, 9, 30)
              + seal(31) + again(1) + again(2) + go(5, 0, 0))


class Form(unittest.TestCase):

    def test_how_many_then_these(self):
        expected = [1, -22, 1, 0, 1, 0, 29] + order(0, 2, 1, 500, 20, 30) + [1, -22, 1, 1]
        expected += [29] + sealing(2, 31) + [29] + order(1, 2, 1, 0, 9, 30) + [1, -2, 1, -2]
        self.assertEqual(answers(EVERYTHING), expected)

    def test_one_call(self):
        self.assertEqual(answers([0, 1, 1]), [1, 0])
        self.assertEqual(answers([0, 4294967295, 1]), [1, -22])

    def test_whole_numbers_in_a_list(self):
        answered = answers(EVERYTHING)
        self.assertIs(type(answered), list)
        self.assertEqual({type(number) for number in answered}, {int})

    def test_a_thousand_calls(self):
        calls = start(32, 8) + turn(31, 7, 1, 1, 1) * 999
        self.assertEqual(parts(answers(calls))[999], order(998, 31, 7, 1, 1, 1))


class HandedIn(unittest.TestCase):

    def test_is_as_it_was(self):
        calls = list(EVERYTHING)
        answers(calls)
        self.assertEqual(calls, EVERYTHING)

    def test_is_never_changed(self):
        self.assertEqual(answers(ReadOnly(EVERYTHING)), answers(EVERYTHING))

    def test_what_is_given_back_is_another_list(self):
        calls = list(EVERYTHING)
        answered = answers(calls)
        answered.clear()
        self.assertEqual(calls, EVERYTHING)


class NothingKept(unittest.TestCase):

    def test_twice_the_same(self):
        self.assertEqual(answers(EVERYTHING), answers(EVERYTHING))

    def test_as_if_for_the_first_time(self):
        answers(start(1, 1) + turn(0, 0, 5, 0, 10) + keep(0) + seal(100))
        answered = parts(answers(start(1, 1) + go(0, 0, 100) + again(0) + turn(0, 0, 5, 0, 9) + seal(0)))
        self.assertEqual(answered, [[0], [-2], [-2], order(0, 0, 0, 5, 0, 9), sealing(1, 0)])

    def test_what_was_given_back_may_be_changed(self):
        first = answers(EVERYTHING)
        expected = list(first)
        first.reverse()
        self.assertEqual(answers(EVERYTHING), expected)


class PlainDesk:
    """The document's words with nothing remembered but the orders themselves."""

    def __init__(self):
        self.replace(0, 0)

    def replace(self, channels, buses):
        self.channels, self.buses = channels, buses
        self.orders, self.sealed, self.scenes = [], 0, {}

    def goes(self, channel, bus):
        own = [(made[4], number, made[2]) for number, made in enumerate(self.orders) if made[:2] == (channel, bus)]
        return max(own)[2] if own else 0

    def all_goes(self):
        return {(channel, bus): self.goes(channel, bus)
                for channel in range(self.channels) for bus in range(self.buses)}

    def call(self, number, *given):
        return (self.start, self.turn, self.keep, self.go, self.seal, self.again)[number](*given)

    def start(self, channels, buses):
        if channels not in range(1, 33) or buses not in range(1, 9):
            return [-22]
        self.replace(channels, buses)
        return [0]

    def turn(self, channel, bus, gain, fade, time):
        if not (channel < self.channels and bus < self.buses and gain <= 65536 and fade <= 480000
                and time < TIME_END):
            return [-22]
        if time < self.sealed:
            return [-13]
        if len(self.orders) == 4096:
            return [-28]
        self.orders.append((channel, bus, gain, fade, time))
        return self.again(len(self.orders) - 1)

    def keep(self, scene):
        if scene > 15:
            return [-22]
        self.scenes[scene] = self.all_goes()
        return [0]

    def go(self, scene, fade, time):
        if scene > 15 or fade > 480000 or time >= TIME_END:
            return [-22]
        if scene not in self.scenes:
            return [-2]
        if time < self.sealed or any(time < made[4] for made in self.orders):
            return [-13]
        now = self.all_goes()
        new = [(*key, gain, fade, time) for key, gain in sorted(self.scenes[scene].items()) if now[key] != gain]
        if len(self.orders) + len(new) > 4096:
            return [-28]
        self.orders += new
        return [len(new)]

    def seal(self, time):
        if time > TIME_END:
            return [-22]
        if time < self.sealed:
            return [-13]
        self.sealed = time
        return sealing(len(self.orders), time)

    def again(self, number):
        return order(number, *self.orders[number]) if number < len(self.orders) else [-2]


def random_call(chance, low):
    """A call near the edges; low is a time that most calls stand close to."""
    time = chance.choice((low, low, low + 1, low + chance.randrange(20), max(low - 1, 0), 0))
    gain = chance.choice((0, 0, 1, 2, 65536, 65537 if chance.random() < 0.1 else 3))
    fade = chance.choice((0, 1, 480000, 480001 if chance.random() < 0.1 else 2))
    scene = chance.choice((0, 1, 15, 16 if chance.random() < 0.1 else 2))
    made = chance.choices("turn keep go seal again start".split(), (50, 12, 25, 3, 9, 1))[0]
    if made == "turn":
        return turn(chance.randrange(4), chance.randrange(3), gain, fade, time)
    if made == "keep":
        return keep(scene)
    if made == "go":
        return go(scene, fade, time)
    if made == "seal":
        return seal(time)
    if made == "again":
        return again(chance.randrange(60))
    return start(chance.choice((0, 3, 4, 33)), chance.choice((2, 3, 9)))


class AgainstPlainDesk(unittest.TestCase):

    def test_many_calls(self):
        for seed in range(60):
            chance = random.Random(seed)
            calls = [start(chance.randrange(1, 5), chance.randrange(1, 4))]
            low = chance.choice((0, 5, TIME_END - 30))
            for step in range(120):
                low += chance.choice((0, 0, 0, 1))
                calls.append(random_call(chance, low))
            plain = PlainDesk()
            expected = [plain.call(*call) for call in calls]
            answered = parts(answers([number for call in calls for number in call]))
            self.assertEqual(answered, expected, f"seed {seed}")


if __name__ == "__main__":
    unittest.main()
