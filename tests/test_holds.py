"""What holds over the whole program: desk and boards together, over many orders."""

import random
import unittest

from calls import (
    TIME_END, begin, firsts, gain, go, hear, keep, lacks, last, mix, order_message, run, seal, seal_message, start,
    turn,
)

UNIT = 65536
CHANNELS = 3
BUSES = 2


def random_orders(chance, count, least_fade=0, channels=CHANNELS, buses=BUSES):
    """Turns of a desk, close together in time so that fades lie within one another."""
    return [turn(chance.randrange(channels), chance.randrange(buses), chance.choice((0, 1, 30000, 65535, UNIT)),
                 least_fade + chance.choice((0, 0, 1, 7, 50, 400)), chance.randrange(300))
            for place in range(count)]


def messages_of(calls):
    """The messages that a desk of CHANNELS and BUSES answers to the calls."""
    answers = run(start(CHANNELS, BUSES), *calls)
    return [answer[1:] for answer in answers if len(answer) == 29]


def told(number, gain, fade, time, channel=0, bus=0):
    return hear(0, order_message(number, channel, bus, gain, fade, time))


def looks(board, samples):
    """Calls that look at all that a board is, as far as it can be asked."""
    calls = [lacks(board)]
    calls += [gain(board, channel, bus, time)
              for channel in range(CHANNELS) for bus in range(BUSES) for time in range(0, 720, 37)]
    return calls + [mix(board, time, samples) for time in range(0, 720, 48)]


def seen(heard, samples):
    """All that a board answers behind those messages."""
    return run(begin(0, CHANNELS, BUSES), *[hear(0, message) for message in heard], *looks(0, samples))[1 + len(heard):]


class AlikeWhateverComesFirst(unittest.TestCase):

    def test_the_order_of_messages_does_not_count(self):
        for seed in range(8):
            chance = random.Random(seed)
            turns = random_orders(chance, 30)
            turns[10:10] = [seal(0)]
            turns += [seal(300), turn(0, 0, 5, 9, 310), seal(500), seal(500)]
            messages = messages_of(turns)
            samples = [chance.randrange(-2 ** 31, 2 ** 31) for place in range(144)]
            expected = seen(messages, samples)
            for again in range(3):
                other = list(messages)
                chance.shuffle(other)
                self.assertEqual(seen(other, samples), expected, f"seed {seed}")

    def test_how_often_they_came_does_not_count(self):
        chance = random.Random(100)
        messages = messages_of(random_orders(chance, 20) + [seal(400), turn(1, 1, 9, 9, 405), seal(410)])
        samples = [chance.randrange(-2 ** 24, 2 ** 24) for place in range(144)]
        expected = seen(messages, samples)
        doubled = messages + messages + messages[::2]
        chance.shuffle(doubled)
        self.assertEqual(seen(doubled, samples), expected)

    def test_some_messages_in_any_order(self):
        chance = random.Random(200)
        messages = messages_of(random_orders(chance, 20) + [seal(100), seal(400)])[::2]
        expected = seen(messages, [5] * 144)
        self.assertNotEqual(expected[0], [-11])
        self.assertEqual(seen(messages[::-1], [5] * 144), expected)

    def test_two_whole_boards_sound_alike(self):
        for seed in range(8):
            chance = random.Random(300 + seed)
            turns = random_orders(chance, 25)
            sealed = turns + [seal(480), turn(0, 0, 7, 0, 480), turn(2, 1, 7, 5, 500)]
            messages = messages_of(sealed)
            first = messages[:26]
            # The other heard orders behind the seal too, which say nothing of samples before it.
            other = list(messages)
            chance.shuffle(other)
            samples = [chance.randrange(-2 ** 31, 2 ** 31) for place in range(144)]
            calls = [begin(0, CHANNELS, BUSES), begin(1, CHANNELS, BUSES)]
            calls += [hear(0, message) for message in first] + [hear(1, message) for message in other]
            for time in range(0, 480, 48):
                one, two = run(*calls, mix(0, time, samples), mix(1, time, samples))[-2:]
                self.assertEqual(one, two)
                self.assertLess(one[0], 1000)

    def test_one_that_does_not_know_all_says_so(self):
        messages = messages_of(random_orders(random.Random(400), 12) + [seal(480)])
        for missing in range(13):
            heard = messages[:missing] + messages[missing + 1:]
            calls = [begin(0, CHANNELS, BUSES), *[hear(0, message) for message in heard]]
            for time in range(0, 480, 48):
                self.assertGreaterEqual(last(*calls, mix(0, time, []))[0], 1000)


class NoJumps(unittest.TestCase):

    def test_from_one_sample_to_the_next(self):
        for seed, fade in enumerate((1, 2, 3, 7, 10, 48, 100, 333)):
            chance = random.Random(seed)
            turns = random_orders(chance, 60, fade, 1, 1)
            calls = [begin(0, 1, 1)]
            calls += [told(number, one[3], one[4], one[5]) for number, one in enumerate(turns)]
            gains = firsts(*calls, *[gain(0, 0, 0, time) for time in range(800)])[61:]
            steepest = max(abs(after - before) for before, after in zip(gains, gains[1:]))
            self.assertLessEqual(steepest, -(-UNIT // fade), f"fade {fade}")

    def test_at_its_edge(self):
        calls = [begin(0, 1, 1), told(0, UNIT, 3, 0), told(1, 0, 3, 3)]
        self.assertEqual(firsts(*calls, *[gain(0, 0, 0, time) for time in range(8)])[3:],
                         [0, 21845, 43690, UNIT, 43690, 21845, 0, 0])

    def test_an_order_made_within_a_fade(self):
        calls = [begin(0, 1, 1), told(0, UNIT, 480000, 0)]
        before = firsts(*calls, gain(0, 0, 0, 239999), gain(0, 0, 0, 240000))[-2:]
        behind = firsts(*calls, told(1, 0, 480000, 240000), gain(0, 0, 0, 239999), gain(0, 0, 0, 240000),
                        gain(0, 0, 0, 240001))[-3:]
        self.assertEqual(behind[:2], before)
        self.assertLessEqual(abs(behind[2] - behind[1]), 1)


class WhereItWasToldToGo(unittest.TestCase):

    def test_behind_its_fade_it_is_what_the_last_order_said(self):
        for seed in range(20):
            chance = random.Random(seed)
            turns = random_orders(chance, 20, 0, 1, 1)
            calls = [begin(0, 1, 1)]
            calls += [told(number, one[3], one[4], one[5]) for number, one in enumerate(turns)]
            time, number = max((one[5], number) for number, one in enumerate(turns))
            end = time + turns[number][4]
            asked = [gain(0, 0, 0, end), gain(0, 0, 0, end + 1), gain(0, 0, 0, TIME_END - 1)]
            self.assertEqual(firsts(*calls, *asked)[21:], [turns[number][3]] * 3)

    def test_never_below_nothing_or_above_the_unit(self):
        for seed in range(10):
            chance = random.Random(seed)
            calls = [begin(0, 1, 1)]
            for number, one in enumerate(random_orders(chance, 60, 0, 1, 1)):
                calls.append(told(number, chance.choice((0, UNIT)), one[4], one[5]))
            gains = firsts(*calls, *[gain(0, 0, 0, time) for time in range(750)])[61:]
            self.assertGreaterEqual(min(gains), 0)
            self.assertLessEqual(max(gains), UNIT)


class StraightThroughSilentTogether(unittest.TestCase):

    def test_alone_at_the_unit_it_comes_out_as_it_is(self):
        chance = random.Random(1)
        sound = [chance.randrange(-2 ** 23, 2 ** 23) for place in range(46)] + [-2 ** 23, 2 ** 23 - 1]
        for channel in (0, 13, 31):
            for bus in (0, 4, 7):
                samples = [chance.randrange(-2 ** 31, 2 ** 31) for place in range(1536)]
                samples[48 * channel:48 * channel + 48] = sound
                calls = [begin(0, 32, 8), told(0, UNIT, 0, 0, channel, bus), hear(0, seal_message(1, 48))]
                self.assertEqual(last(*calls, mix(0, 0, samples)),
                                 [0] + [0] * (48 * bus) + sound + [0] * (48 * (7 - bus)))

    def test_without_gains_there_is_silence(self):
        for heard in ([], [told(0, 0, 0, 0), told(1, 0, 9, 0, 1)], [told(0, UNIT, 0, 48)],
                      [told(0, UNIT, 0, 0), told(1, 0, 0, 0)]):
            for sample in (-2 ** 31, -1, 2 ** 31 - 1):
                out = last(begin(0, 32, 8), *heard, mix(0, 0, [sample] * 1536))
                self.assertEqual(out, [1000] + [0] * 384)

    def test_two_sounds_together_are_what_comes_of_each_or_one_more(self):
        differences = set()
        for seed in range(20):
            chance = random.Random(seed)
            turns = random_orders(chance, 12)
            calls = [begin(0, CHANNELS, BUSES)]
            calls += [told(number, one[3], one[4], one[5], one[1], one[2]) for number, one in enumerate(turns)]
            one = [chance.randrange(-2 ** 19, 2 ** 19) for place in range(144)]
            two = [chance.randrange(-2 ** 19, 2 ** 19) for place in range(144)]
            both = [a + b for a, b in zip(one, two)]
            time = 48 * chance.randrange(14)
            outs = run(*calls, mix(0, time, one), mix(0, time, two), mix(0, time, both))[-3:]
            differences |= {c - a - b for a, b, c in zip(outs[0][1:], outs[1][1:], outs[2][1:])}
        self.assertEqual(differences, {0, 1})

    def test_two_channels_together_are_what_comes_of_each_or_one_more(self):
        calls = [begin(0, 2, 1), told(0, 40000, 0, 0), told(1, 50001, 0, 0, 1)]
        chance = random.Random(7)
        one = [chance.randrange(-2 ** 22, 2 ** 22) for place in range(48)]
        two = [chance.randrange(-2 ** 22, 2 ** 22) for place in range(48)]
        outs = run(*calls, mix(0, 0, one), mix(0, 0, [0] * 48 + two), mix(0, 0, one + two))[-3:]
        self.assertEqual({c - a - b for a, b, c in zip(outs[0][1:], outs[1][1:], outs[2][1:])}, {0, 1})


class AsInTheScene(unittest.TestCase):

    def test_a_scene_that_is_called_back_is_where_all_gains_go(self):
        for seed in range(10):
            chance = random.Random(seed)
            before, behind = random_orders(chance, 15), random_orders(chance, 15)
            # Each order of the desk is asked for again, so that a board hears those of the scene too.
            calls = [start(CHANNELS, BUSES), *before, keep(3), *behind, go(3, 20, 300)]
            count = last(*calls)[0]
            calls += [[5, number] for number in range(30 + count)]
            messages = [answer[1:] for answer in run(*calls) if len(answer) == 29]
            places = [(channel, bus) for channel in range(CHANNELS) for bus in range(BUSES)]
            kept = self.gains(messages[:15], places)
            self.assertEqual(self.gains(messages, places), kept, f"seed {seed}")
            self.assertEqual(last(*calls, go(3, 0, 300)), [0])

    def gains(self, messages, places):
        """Where the gains are at last, by a board that heard these."""
        calls = [begin(0, CHANNELS, BUSES), *[hear(0, message) for message in messages]]
        return firsts(*calls, *[gain(0, channel, bus, TIME_END - 1) for channel, bus in places])[len(calls):]


class SealedIsSealed(unittest.TestCase):

    def test_behind_a_seal_no_order_is_made_for_a_sample_before_it(self):
        for sealed in (1, 100, TIME_END - 1, TIME_END):
            calls = [start(2, 2), keep(0), turn(0, 0, 1, 0, 0), seal(sealed)]
            for time in (0, sealed // 2, sealed - 1):
                tried = [turn(0, 0, 1, 0, time), go(0, 0, time), seal(sealed)]
                self.assertEqual(firsts(*calls, *tried)[-3:], [-13, -13, 1])

    def test_what_a_whole_board_put_together_stays(self):
        chance = random.Random(9)
        turns = random_orders(chance, 20) + [seal(336)]
        later = [turn(chance.randrange(CHANNELS), chance.randrange(BUSES), 9, 0, chance.randrange(400))
                 for place in range(40)]
        messages = messages_of(turns + later)
        self.assertGreater(len(messages), 21)
        self.assertLess(len(messages), 61)
        samples = [chance.randrange(-2 ** 24, 2 ** 24) for place in range(144)]
        calls = [begin(0, CHANNELS, BUSES), *[hear(0, message) for message in messages[:21]]]
        more = [hear(0, message) for message in messages[21:]]
        for time in range(0, 336, 48):
            self.assertEqual(last(*calls, mix(0, time, samples)), last(*calls, *more, mix(0, time, samples)))


if __name__ == "__main__":
    unittest.main()
