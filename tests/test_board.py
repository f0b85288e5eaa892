"""Points 7 to 11: the calls of a board."""

import unittest

from calls import (
    TIME_END, again, begin, firsts, gain, hear, lacks, last, mix, order, order_message, run, seal, seal_message,
    start, turn, with_check,
)

BIG = 4294967295
BIGGEST = 2 ** 64 - 1
UNIT = 65536
LOWEST = -8388608
HIGHEST = 8388607
LAST_BLOCK = TIME_END - 16


def told(number, gain, fade, time, channel=0, bus=0):
    """A right message of an order is heard by board 0."""
    return hear(0, order_message(number, channel, bus, gain, fade, time))


def sealed(number, time):
    """A right message of a seal is heard by board 0."""
    return hear(0, seal_message(number, time))


def changed(octets, place, octet):
    """The message with another byte, and a check that is right for that."""
    head = list(octets[:24])
    head[place] = octet
    return with_check(bytes(head))


def block(out, bus):
    """What came out of a bus, of a mix's whole answer."""
    return out[1 + 48 * bus:49 + 48 * bus]


class Start(unittest.TestCase):
    """Point 7."""

    def test_sizes_that_are_taken(self):
        for channels, buses in ((1, 1), (32, 8), (1, 8), (32, 1), (16, 4), (31, 7), (2, 2)):
            for board in (0, 1):
                with self.subTest(channels=channels, buses=buses, board=board):
                    self.assertEqual(run(begin(board, channels, buses)), [[0]])

    def test_sizes_that_are_refused(self):
        wrong = ((0, 1), (1, 0), (0, 0), (33, 1), (1, 9), (33, 9), (33, 8), (32, 9), (0, 8), (32, 0),
                 (BIG, 1), (1, BIG), (BIG, BIG))
        for channels, buses in wrong:
            for board in (0, 1):
                with self.subTest(channels=channels, buses=buses, board=board):
                    self.assertEqual(run(begin(board, channels, buses)), [[-22]])

    def test_refused_first_and_taken_then(self):
        self.assertEqual(firsts(begin(0, 0, 1), begin(0, 1, 9), begin(0, 1, 1), gain(0, 0, 0, 0)), [-22, -22, 0, 0])

    def test_the_sizes_bound_channel_and_bus(self):
        for channels, buses in ((1, 1), (32, 8), (5, 3)):
            with self.subTest(channels=channels, buses=buses):
                self.assertEqual(firsts(
                    begin(0, channels, buses),
                    gain(0, channels - 1, buses - 1, 0),
                    gain(0, channels, 0, 0),
                    gain(0, 0, buses, 0),
                ), [0, 0, -22, -22])

    def test_it_heard_nothing(self):
        self.assertEqual(run(begin(0, 2, 2), lacks(0), gain(0, 1, 1, 9), mix(0, 0, [9] * 96)),
                         [[0], [-11], [0], [1000] + [0] * 384])

    def test_again_it_heard_nothing(self):
        begun = [begin(0, 4, 4), told(0, 7, 0, 0), told(1, 8, 0, 0, 3, 3), sealed(3, 500), begin(0, 2, 2)]
        self.assertEqual(firsts(*begun), [0, 1, 1, 1, 0])
        self.assertEqual(last(*begun, lacks(0)), [-11])
        self.assertEqual(last(*begun, gain(0, 0, 0, 9)), [0])
        self.assertEqual(last(*begun, gain(0, 2, 0, 9)), [-22])
        self.assertEqual(last(*begun, gain(0, 0, 2, 9)), [-22])
        self.assertEqual(last(*begun, mix(0, 0, [UNIT] * 96)), [1000] + [0] * 384)
        self.assertEqual(firsts(*begun, told(0, 9, 0, 0), gain(0, 0, 0, 9))[-2:], [1, 9])
        self.assertEqual(firsts(*begun, sealed(0, 0), sealed(2, 1), sealed(3, 500))[-3:], [0, 1, 1])

    def test_again_with_more_channels_nothing_of_before_is_there(self):
        calls = [begin(0, 1, 1), told(0, 7, 0, 0, 3, 3), begin(0, 4, 4), gain(0, 3, 3, 9), told(0, 7, 0, 0, 3, 3)]
        self.assertEqual(firsts(*calls), [0, 1, 0, 0, 1])

    def test_refused_again_all_stays(self):
        for wrong in ((0, 4), (4, 0), (33, 4), (4, 9), (BIG, BIG)):
            with self.subTest(wrong=wrong):
                begun = [begin(0, 4, 4), told(0, UNIT, 0, 0, 3, 3), sealed(2, 48), begin(0, *wrong)]
                self.assertEqual(firsts(*begun), [0, 1, 1, -22])
                self.assertEqual(firsts(
                    *begun, lacks(0), gain(0, 3, 3, 0), gain(0, 4, 3, 0), gain(0, 3, 4, 0), told(0, 1, 0, 0),
                    sealed(2, 48), told(1, 0, 0, 0), lacks(0),
                )[4:], [1, UNIT, -22, -22, 0, 0, 1, -11])
                out = last(*begun, told(1, 0, 0, 0), mix(0, 0, [0] * 144 + [5] * 48))
                self.assertEqual(out, [0] + [0] * 144 + [5] * 48 + [0] * 192)

    def test_boards_apart_from_one_another(self):
        first = order_message(0, 0, 0, 11, 0, 0)
        other = order_message(0, 1, 1, 22, 0, 0)
        self.assertEqual(firsts(
            begin(0, 1, 1), begin(1, 2, 2), hear(0, first), gain(1, 0, 0, 0), lacks(1), hear(1, other),
            gain(0, 0, 0, 0), gain(1, 0, 0, 0), gain(1, 1, 1, 0), gain(0, 1, 1, 0), hear(1, seal_message(2, 48)),
            lacks(0), lacks(1), begin(0, 2, 2), gain(1, 1, 1, 0), gain(0, 0, 0, 0), lacks(1), mix(1, 0, []),
            hear(1, order_message(1, 0, 0, 0, 0, 0)), mix(1, 0, []), mix(0, 0, []), begin(1, 0, 0), gain(1, 1, 1, 0),
        ), [0, 0, 1, 0, -11, 1, 11, 0, 22, -22, 1, -11, 1, 0, 22, 0, 1, 1000, 1, 0, 1000, -22, 22])

    def test_board_one_alone(self):
        self.assertEqual(firsts(begin(1, 1, 1), hear(1, order_message(0, 0, 0, 5, 0, 0)), gain(1, 0, 0, 0)), [0, 1, 5])

    def test_the_desk_apart_from_the_boards(self):
        calls = [start(2, 2), begin(0, 3, 3), turn(1, 1, 5, 0, 10), seal(48), lacks(0), gain(0, 1, 1, 10),
                 told(0, 6, 0, 0), sealed(7, TIME_END), turn(0, 0, 1, 0, 48), again(0), turn(2, 0, 1, 0, 48),
                 gain(0, 2, 0, 0), start(1, 1), gain(0, 0, 0, 0), lacks(0), turn(0, 0, 9, 0, 0), begin(0, 1, 1),
                 again(0)]
        answers = run(*calls)
        self.assertEqual([answer[0] for answer in answers],
                         [0, 0, 0, 1, -11, 0, 1, 1, 1, 0, -22, 0, 0, 6, 1, 0, 0, 0])
        self.assertEqual([answers[9], answers[17]], [order(0, 1, 1, 5, 0, 10), order(0, 0, 0, 9, 0, 0)])


class Heard(unittest.TestCase):
    """Point 8."""

    def heard(self, message):
        """The answer of a board that heard nothing; if that's -71 it must still have heard nothing."""
        calls = [begin(0, 32, 8), hear(0, message), lacks(0), mix(0, LAST_BLOCK, [1 << 20] * 1536)]
        answers = run(*calls)
        self.assertEqual(len(answers[1]), 1)
        if answers[1] == [-71]:
            self.assertEqual(answers[2:], [[-11], [1000] + [0] * 384])
        return answers[1][0]

    def test_messages_by_hand(self):
        self.assertEqual(self.heard([
            1, 0, 0, 0, 0, 0, 0, 0, 0, 0, 0, 0, 0, 0, 0, 0, 0, 0, 0, 0, 0, 0, 0, 0, 0x60, 0x2E, 0xB4, 0x3E]), 1)
        self.assertEqual(self.heard([
            1, 31, 7, 0, 0, 0, 0, 0, 255, 255, 255, 255, 255, 255, 0, 0, 0, 0, 1, 0, 0, 0x53, 7, 0,
            0xF5, 0x9C, 0x75, 0xD8]), 1)
        self.assertEqual(self.heard([
            2, 0, 0, 0, 2, 0, 0, 0, 0, 0, 0, 0, 0, 0, 1, 0, 0, 0, 0, 0, 0, 0, 0, 0, 0xDC, 0x8B, 0x59, 0x50]), 1)

    def test_each_number_of_an_order_is_where_it_is_told(self):
        message = [1, 2, 3, 0, 1, 0, 0, 0, 5, 4, 3, 2, 1, 0, 0, 0, 1, 0x80, 0, 0, 0x45, 0x23, 1, 0]
        time = 0x0102030405
        calls = [begin(0, 4, 4), hear(0, with_check(bytes(message))), gain(0, 2, 3, time + 0x12345),
                 gain(0, 2, 3, time + 0x12344), gain(0, 2, 3, time + 1), gain(0, 2, 3, time + 3),
                 gain(0, 3, 2, time * 2), sealed(2, 1), lacks(0), told(0, 1, 0, 0), lacks(0)]
        self.assertEqual(firsts(*calls), [0, 1, 0x8001, 0x8000, 0, 1, 0, 1, 0, 1, -11])

    def test_each_number_of_a_seal_is_where_it_is_told(self):
        message = with_check(bytes([2, 0, 0, 0, 2, 1, 0, 0, 0, 3, 0, 0, 0, 0, 0, 0, 0, 0, 0, 0, 0, 0, 0, 0]))
        self.assertEqual(firsts(begin(0, 1, 1), hear(0, message), sealed(0x102, 0x300), sealed(0x103, 0x300),
                                sealed(4096, 0x2FF), sealed(0, 0x301)), [0, 1, 0, 1, 0, 1])

    def test_a_message_of_the_desk(self):
        answers = run(start(2, 2), turn(1, 1, 500, 0, 30), seal(48))
        calls = [begin(0, 2, 2), hear(0, answers[2][1:]), lacks(0), hear(0, answers[1][1:]), lacks(0),
                 gain(0, 1, 1, 30)]
        self.assertEqual(firsts(*calls), [0, 1, 0, 1, -11, 500])

    def test_an_order_heard_again(self):
        calls = [begin(0, 1, 1), told(3, 50, 0, 9), told(3, 50, 0, 9), told(4, 60, 0, 8), told(3, 50, 0, 9),
                 told(4, 60, 0, 8), gain(0, 0, 0, 8), gain(0, 0, 0, 9)]
        self.assertEqual(firsts(*calls), [0, 1, 0, 1, 0, 0, 60, 50])

    def test_an_order_of_that_number_that_says_something_else(self):
        for other in (told(3, 51, 0, 9), told(3, 50, 1, 9), told(3, 50, 0, 8), told(3, 50, 0, 10),
                      told(3, 50, 0, 9, 1), told(3, 50, 0, 9, 0, 1)):
            with self.subTest(other=other):
                calls = [begin(0, 2, 2), told(3, 50, 0, 9), other, gain(0, 0, 0, 8), gain(0, 0, 0, 9),
                         gain(0, 0, 0, 10), gain(0, 0, 0, 11), gain(0, 1, 0, 11), gain(0, 0, 1, 11), other]
                self.assertEqual(firsts(*calls), [0, 1, 0, 0, 50, 50, 50, 0, 0, 0])

    def test_the_number_counts_for_all_channels_and_buses(self):
        calls = [begin(0, 1, 1), told(0, 50, 0, 9, 31, 7), told(0, 50, 0, 9), gain(0, 0, 0, 9), told(1, 50, 0, 9)]
        self.assertEqual(firsts(*calls), [0, 1, 0, 0, 1])

    def test_seals_by_time_and_of_like_times_by_number(self):
        begun = [begin(0, 1, 1), sealed(5, 100)]
        for number, time, answer in ((5, 100, 0), (4, 100, 0), (6, 100, 1), (5, 99, 0), (6, 99, 0), (4096, 99, 0),
                                     (5, 101, 1), (4, 101, 1), (0, 101, 1), (0, 0, 0), (0, TIME_END, 1)):
            with self.subTest(number=number, time=time):
                self.assertEqual(firsts(*begun, sealed(number, time)), [0, 1, answer])
                self.assertEqual(firsts(*begun, sealed(number, time), sealed(number, time))[3], 0)

    def test_the_seal_that_is_kept_is_the_greatest(self):
        def kept(*seals):
            return firsts(begin(0, 1, 1), *[sealed(*one) for one in seals], told(0, 0, 0, 0), told(1, 0, 0, 0),
                          lacks(0), mix(0, 0, []))[-2:]

        self.assertEqual(kept((2, 48), (3, 48)), [2, 1000])
        self.assertEqual(kept((3, 48), (2, 48)), [2, 1000])
        self.assertEqual(kept((3, 47), (2, 48)), [-11, 0])
        self.assertEqual(kept((2, 48), (3, 47)), [-11, 0])
        self.assertEqual(kept((2, 47), (2, 46)), [-11, 1000])

    def test_the_seal_of_no_orders_and_time_nothing_says_nothing_new(self):
        self.assertEqual(firsts(begin(0, 1, 1), sealed(0, 0), sealed(0, 0), sealed(1, 0), sealed(0, 0), sealed(0, 1)),
                         [0, 0, 0, 1, 0, 1])

    def test_orders_and_seals_apart(self):
        calls = [begin(0, 1, 1), sealed(3, 7), told(3, 1, 0, 7), sealed(3, 7), told(3, 1, 0, 7), told(0, 1, 0, 0)]
        self.assertEqual(firsts(*calls), [0, 1, 1, 0, 0, 1])

    def test_a_wrong_check(self):
        for message in (order_message(0, 3, 2, 500, 600, 700), seal_message(3, 700)):
            for place in range(28):
                for bit in range(8):
                    wrong = list(message)
                    wrong[place] ^= 1 << bit
                    self.assertEqual(last(begin(0, 32, 8), hear(0, wrong)), [-71])
            self.assertEqual(self.heard(message), 1)
            self.assertEqual(self.heard(message[:24] + [0] * 4), -71)
            self.assertEqual(self.heard(message[:24] + [octet ^ 255 for octet in message[24:]]), -71)
            self.assertEqual(self.heard(message[:24] + message[:23:-1]), -71)
        self.assertEqual(self.heard([0] * 28), -71)
        self.assertEqual(self.heard([255] * 28), -71)

    def test_kinds(self):
        for kind in (0, 3, 4, 127, 129, 130, 254, 255):
            with self.subTest(kind=kind):
                self.assertEqual(self.heard(order_message(0, 0, 0, 1, 0, 0, kind=kind)), -71)
                self.assertEqual(self.heard(seal_message(1, 1, kind=kind)), -71)

    def test_an_orders_edges(self):
        right = {"number": 0, "channel": 0, "bus": 0, "gain": 1, "fade": 0, "time": 0}
        for name, most, over in (
            ("channel", 31, (32, 33, 255)),
            ("bus", 7, (8, 9, 255)),
            ("number", 4095, (4096, 4097, 65536, BIG)),
            ("time", TIME_END - 1, (TIME_END, TIME_END + 1, 2 ** 56, BIGGEST)),
            ("gain", 65536, (65537, 131072, BIG)),
            ("fade", 480000, (480001, 2 ** 24, BIG)),
        ):
            with self.subTest(name=name):
                self.assertEqual(self.heard(order_message(**{**right, name: most})), 1)
                self.assertEqual(self.heard(order_message(**{**right, name: 0})), 1)
                for wrong in over:
                    self.assertEqual(self.heard(order_message(**{**right, name: wrong})), -71)

    def test_all_edges_at_once(self):
        self.assertEqual(self.heard(order_message(4095, 31, 7, 65536, 480000, TIME_END - 1)), 1)
        self.assertEqual(self.heard(order_message(0, 0, 0, 0, 0, 0)), 1)
        self.assertEqual(self.heard(seal_message(4096, TIME_END)), 1)

    def test_a_seals_edges(self):
        for number, time in ((4096, 1), (4095, 1), (0, TIME_END), (0, TIME_END - 1), (1, 0)):
            self.assertEqual(self.heard(seal_message(number, time)), 1)
        for number, time in ((4097, 1), (65536, 1), (BIG, 1), (1, TIME_END + 1), (1, 2 ** 56), (1, BIGGEST),
                             (4097, TIME_END + 1)):
            self.assertEqual(self.heard(seal_message(number, time)), -71)

    def test_an_orders_byte_that_is_nothing(self):
        for octet in (1, 2, 128, 255):
            self.assertEqual(self.heard(order_message(0, 0, 0, 1, 0, 0, zero=octet)), -71)

    def test_a_seals_bytes_that_are_nothing(self):
        message = seal_message(1, 1)
        for place in (1, 2, 3, 16, 17, 18, 19, 20, 21, 22, 23):
            for octet in (1, 128, 255):
                with self.subTest(place=place, octet=octet):
                    self.assertEqual(self.heard(changed(message, place, octet)), -71)
        self.assertEqual(self.heard(changed(message, 0, 2)), 1)

    def test_behind_a_refusal_all_is_as_it_was(self):
        wrong = [order_message(1, 32, 0, 9, 0, 0), order_message(1, 0, 8, 9, 0, 0), order_message(1, 0, 0, 65537, 0, 0),
                 order_message(1, 0, 0, 9, 480001, 0), order_message(1, 0, 0, 9, 0, TIME_END),
                 order_message(4096, 0, 0, 9, 0, 0), order_message(1, 0, 0, 9, 0, 0, zero=1),
                 order_message(1, 0, 0, 9, 0, 0)[:27] + [0], seal_message(4097, 500), seal_message(1, TIME_END + 1),
                 changed(seal_message(1, 500), 23, 1), seal_message(1, 500)[:24] + [0] * 4]
        begun = [begin(0, 2, 2), told(0, UNIT, 0, 0), sealed(2, 100)]
        for message in wrong:
            with self.subTest(message=message):
                calls = [*begun, hear(0, message), lacks(0), gain(0, 0, 0, 5), gain(0, 1, 1, 5), sealed(2, 100),
                         sealed(2, 101), told(0, 1, 0, 0), told(1, 7, 0, 0, 1, 1), gain(0, 1, 1, 5), lacks(0)]
                self.assertEqual(firsts(*calls)[3:], [-71, 1, UNIT, 0, 0, 1, 0, 1, 7, -11])

    def test_behind_nothing_new_all_is_as_it_was(self):
        for same in (told(0, UNIT, 0, 0), told(0, 5, 9, 7, 1, 1), sealed(2, 100), sealed(1, 100), sealed(4096, 99),
                     sealed(0, 0)):
            with self.subTest(same=same):
                calls = [begin(0, 2, 2), told(0, UNIT, 0, 0), sealed(2, 100), same, lacks(0), gain(0, 0, 0, 5),
                         gain(0, 1, 1, 50), sealed(2, 100), sealed(2, 101), told(1, 7, 0, 0, 1, 1), gain(0, 1, 1, 5),
                         lacks(0)]
                self.assertEqual(firsts(*calls)[3:], [0, 1, UNIT, 0, 0, 1, 1, 7, -11])

    def test_an_order_for_what_the_board_has_not_is_right_all_the_same(self):
        for channel, bus in ((1, 0), (0, 1), (31, 7), (1, 1)):
            with self.subTest(channel=channel, bus=bus):
                calls = [begin(0, 1, 1), sealed(1, 48), lacks(0), mix(0, 0, []), told(0, UNIT, 0, 0, channel, bus),
                         lacks(0), told(0, UNIT, 0, 0, channel, bus), gain(0, channel, bus, 0), gain(0, 0, 0, 0),
                         mix(0, 0, [5] * 1536)]
                answers = run(*calls)
                self.assertEqual([answer[0] for answer in answers], [0, 1, 0, 1000, 1, -11, 0, -22, 0, 0])
                self.assertEqual(answers[-1], [0] * 385)


class Lacks(unittest.TestCase):
    """Point 9."""

    def test_nothing_sealed(self):
        self.assertEqual(firsts(begin(0, 1, 1), lacks(0), told(5, 0, 0, 0), lacks(0)), [0, -11, 1, -11])

    def test_a_seal_of_no_orders(self):
        self.assertEqual(firsts(begin(0, 1, 1), sealed(0, 100), lacks(0)), [0, 1, -11])

    def test_nothing_heard(self):
        self.assertEqual(firsts(begin(0, 1, 1), sealed(1, 0), lacks(0)), [0, 1, 0])
        self.assertEqual(firsts(begin(0, 1, 1), sealed(4096, 0), lacks(0)), [0, 1, 0])

    def test_nothing_lacking(self):
        self.assertEqual(firsts(begin(0, 1, 1), told(0, 0, 0, 0), told(1, 0, 0, 0), sealed(2, 9), lacks(0))[-1], -11)

    def test_the_lowest_of_several(self):
        calls = [begin(0, 1, 1), sealed(6, 9), told(0, 0, 0, 0), told(2, 0, 0, 0), lacks(0), told(4, 0, 0, 0), lacks(0),
                 told(1, 0, 0, 0), lacks(0), told(3, 0, 0, 0), lacks(0), told(5, 0, 0, 0), lacks(0)]
        self.assertEqual(firsts(*calls)[4::2], [1, 1, 3, 5, -11])

    def test_the_last_below_the_seals(self):
        begun = [begin(0, 1, 1), *[told(number, 0, 0, 0) for number in range(300)]]
        self.assertEqual(last(*begun, sealed(300, 9), lacks(0)), [-11])
        self.assertEqual(last(*begun, sealed(301, 9), lacks(0)), [300])

    def test_heard_in_any_order(self):
        calls = [begin(0, 1, 1), told(2, 0, 0, 0), told(1, 0, 0, 0), sealed(3, 9), lacks(0), told(0, 0, 0, 0), lacks(0)]
        self.assertEqual(firsts(*calls), [0, 1, 1, 1, 0, 1, -11])

    def test_an_order_above_the_seals_number(self):
        calls = [begin(0, 1, 1), told(0, 0, 0, 0), told(1, 0, 0, 0), told(7, 0, 0, 0), sealed(2, 9), lacks(0),
                 sealed(3, 9), lacks(0), told(4095, 0, 0, 0), lacks(0)]
        self.assertEqual(firsts(*calls)[5:], [-11, 1, 2, 1, 2])

    def test_a_seal_that_takes_the_place_of_another(self):
        calls = [begin(0, 1, 1), sealed(5, 9), lacks(0), sealed(0, 10), lacks(0), sealed(5, 9), lacks(0), sealed(1, 10),
                 lacks(0)]
        self.assertEqual(firsts(*calls), [0, 1, 0, 1, -11, 0, -11, 1, 0])

    def test_the_seals_time_does_not_count(self):
        calls = [begin(0, 1, 1), told(0, 0, 0, 500), sealed(2, 0), lacks(0), told(1, 0, 0, 900), lacks(0)]
        self.assertEqual(firsts(*calls), [0, 1, 1, 1, 1, -11])


class Gain(unittest.TestCase):
    """Point 10."""

    def gains(self, messages, times, channel=0, bus=0):
        """The gains at those times behind the messages."""
        begun = [begin(0, 2, 2), *messages]
        answers = run(*begun, *[gain(0, channel, bus, time) for time in times])[len(begun):]
        self.assertEqual({len(answer) for answer in answers}, {1})
        return [answer[0] for answer in answers]

    def test_not_as_told(self):
        begun = [begin(0, 5, 3), told(0, 7, 0, 0, 4, 2)]
        self.assertEqual(last(*begun, gain(0, 4, 2, TIME_END - 1)), [7])
        for channel, bus, time in ((5, 2, 0), (6, 2, 0), (BIG, 2, 0), (4, 3, 0), (4, 4, 0), (4, BIG, 0),
                                   (4, 2, TIME_END), (4, 2, TIME_END + 1), (4, 2, BIGGEST), (5, 3, TIME_END)):
            with self.subTest(channel=channel, bus=bus, time=time):
                self.assertEqual(last(*begun, gain(0, channel, bus, time)), [-22])

    def test_without_orders(self):
        self.assertEqual(self.gains([], (0, 1, 48000, TIME_END - 1)), [0, 0, 0, 0])

    def test_each_gain_by_its_own_orders(self):
        messages = [told(0, 1, 0, 0, 0, 0), told(1, 2, 0, 0, 0, 1), told(2, 3, 0, 0, 1, 0), told(3, 4, 0, 0, 1, 1)]
        self.assertEqual([self.gains(messages, (9,), channel, bus) for channel in (0, 1) for bus in (0, 1)],
                         [[1], [2], [3], [4]])
        self.assertEqual(self.gains([told(0, 9, 0, 0, 1, 0)], (9,), 0, 1), [0])

    def test_upwards(self):
        self.assertEqual(self.gains([told(0, 10, 4, 100)], (0, 99, 100, 101, 102, 103, 104, 105, TIME_END - 1)),
                         [0, 0, 0, 2, 5, 7, 10, 10, 10])

    def test_downwards(self):
        messages = [told(0, 10, 0, 0), told(1, 0, 4, 100)]
        self.assertEqual(self.gains(messages, (0, 99, 100, 101, 102, 103, 104, 105)), [10, 10, 10, 7, 5, 2, 0, 0])

    def test_rounded_down_both_ways(self):
        self.assertEqual(self.gains([told(0, 1, 3, 0)], (0, 1, 2, 3)), [0, 0, 0, 1])
        self.assertEqual(self.gains([told(0, 1, 0, 0), told(1, 0, 3, 0)], (0, 1, 2, 3)), [1, 0, 0, 0])
        self.assertEqual(self.gains([told(0, 9, 0, 0), told(1, 2, 3, 0)], (0, 1, 2, 3)), [9, 6, 4, 2])
        self.assertEqual(self.gains([told(0, 2, 0, 0), told(1, 9, 3, 0)], (0, 1, 2, 3)), [2, 4, 6, 9])

    def test_a_long_fade(self):
        self.assertEqual(self.gains([told(0, UNIT, 480000, 7)], (7, 8, 14, 15, 240007, 480006, 480007)),
                         [0, 0, 0, 1, 32768, 65535, UNIT])

    def test_a_fade_of_nothing(self):
        self.assertEqual(self.gains([told(0, UNIT, 0, 50)], (49, 50, 51)), [0, UNIT, UNIT])
        self.assertEqual(self.gains([told(0, UNIT, 0, 0)], (0,)), [UNIT])
        self.assertEqual(self.gains([told(0, 7, 0, TIME_END - 1)], (TIME_END - 2, TIME_END - 1)), [0, 7])

    def test_a_fade_of_one(self):
        self.assertEqual(self.gains([told(0, 7, 1, 50)], (49, 50, 51)), [0, 0, 7])

    def test_a_fade_over_the_end_of_time(self):
        self.assertEqual(self.gains([told(0, 100, 10, TIME_END - 4)], (TIME_END - 4, TIME_END - 1)), [0, 30])

    def test_within_anothers_fade(self):
        messages = [told(0, 1000, 10, 100), told(1, 0, 5, 103)]
        self.assertEqual(self.gains(messages, (100, 101, 102, 103, 104, 105, 106, 107, 108, 110, 120)),
                         [0, 100, 200, 300, 240, 180, 120, 60, 0, 0, 0])

    def test_it_begins_from_the_gain_that_is_rounded_down(self):
        messages = [told(0, 10, 4, 100), told(1, 0, 2, 101)]
        self.assertEqual(self.gains(messages, (100, 101, 102, 103)), [0, 2, 1, 0])

    def test_three_fades_within_one_another(self):
        messages = [told(0, 1000, 10, 0), told(1, 0, 10, 5), told(2, 1000, 10, 10)]
        self.assertEqual(self.gains(messages, (4, 5, 9, 10, 11, 19, 20)), [400, 500, 300, 250, 325, 925, 1000])

    def test_a_short_order_within_a_long_fade_ends_it(self):
        messages = [told(0, 1000, 1000, 0), told(1, 7, 0, 500)]
        self.assertEqual(self.gains(messages, (499, 500, 501, 1000, 2000)), [499, 7, 7, 7, 7])

    def test_behind_anothers_fade(self):
        messages = [told(0, 100, 10, 0), told(1, 200, 10, 10), told(2, 0, 10, 50)]
        self.assertEqual(self.gains(messages, (5, 10, 15, 20, 50, 55, 60)), [50, 100, 150, 200, 200, 100, 0])

    def test_like_times_by_number(self):
        self.assertEqual(self.gains([told(0, 5, 0, 9), told(1, 6, 0, 9)], (8, 9, 10)), [0, 6, 6])
        self.assertEqual(self.gains([told(1, 6, 0, 9), told(0, 5, 0, 9)], (8, 9, 10)), [0, 6, 6])
        self.assertEqual(self.gains([told(1, 5, 0, 9), told(0, 6, 0, 9)], (8, 9, 10)), [0, 5, 5])

    def test_of_like_times_each_begins_from_the_one_before(self):
        self.assertEqual(self.gains([told(0, 100, 0, 9), told(1, 0, 4, 9)], (9, 10, 13)), [100, 75, 0])
        self.assertEqual(self.gains([told(0, 100, 8, 9), told(1, 40, 4, 9)], (9, 10, 13)), [0, 10, 40])
        self.assertEqual(self.gains([told(0, 0, 4, 9), told(1, 100, 0, 9)], (9, 10, 13)), [100, 100, 100])
        messages = [told(0, 60, 0, 9), told(1, 100, 8, 9), told(2, 20, 4, 9)]
        self.assertEqual(self.gains(messages, (8, 9, 10, 13)), [0, 60, 50, 20])

    def test_the_time_counts_ahead_of_the_number(self):
        self.assertEqual(self.gains([told(0, 5, 0, 20), told(1, 6, 0, 10)], (9, 10, 19, 20, 30)), [0, 6, 6, 5, 5])
        self.assertEqual(self.gains([told(9, 100, 10, 0), told(3, 0, 10, 5)], (5, 10, 15)), [50, 25, 0])

    def test_heard_in_another_order_than_they_were_made(self):
        messages = [told(0, 1000, 10, 0), told(1, 0, 10, 5), told(2, 1000, 10, 10), told(3, 3, 0, 10)]
        times = (4, 5, 9, 10, 11, 19, 20)
        expected = [400, 500, 300, 3, 3, 3, 3]
        for places in ((0, 1, 2, 3), (3, 2, 1, 0), (2, 0, 3, 1), (1, 3, 0, 2)):
            with self.subTest(places=places):
                self.assertEqual(self.gains([messages[place] for place in places], times), expected)

    def test_an_order_heard_late_counts_from_its_time_on(self):
        calls = [begin(0, 1, 1), told(1, 0, 10, 10), gain(0, 0, 0, 15), told(0, 100, 0, 3), gain(0, 0, 0, 2),
                 gain(0, 0, 0, 3), gain(0, 0, 0, 15)]
        self.assertEqual(firsts(*calls), [0, 1, 0, 1, 0, 100, 50])

    def test_what_is_not_sealed_counts_too(self):
        calls = [begin(0, 1, 1), told(7, 5, 0, 900), gain(0, 0, 0, 900), sealed(1, 100), gain(0, 0, 0, 900)]
        self.assertEqual(firsts(*calls), [0, 1, 5, 1, 5])

    def test_it_changes_nothing(self):
        calls = [begin(0, 1, 1), told(0, 100, 10, 0), gain(0, 0, 0, 5), gain(0, 0, 0, 20), gain(0, 0, 0, 5),
                 gain(0, 1, 0, 5), gain(0, 0, 0, 5)]
        self.assertEqual(firsts(*calls), [0, 1, 50, 100, 50, -22, 50])


class Mix(unittest.TestCase):
    """Point 11."""

    def mixed(self, calls, samples, time=0):
        """The whole answer, which has 385 numbers."""
        answer = last(*calls, mix(0, time, samples))
        self.assertEqual(len(answer), 385)
        return answer

    def test_time_is_a_multiple_of_48_below_the_end(self):
        begun = begin(0, 1, 1)
        for time in (0, 48, 96, 4800, LAST_BLOCK - 48, LAST_BLOCK):
            self.assertEqual(last(begun, mix(0, time, [])), [1000] + [0] * 384)
        for time in (1, 24, 47, 49, 95, LAST_BLOCK - 1, LAST_BLOCK + 1, TIME_END - 1, TIME_END, TIME_END + 32,
                     2 ** 63, BIGGEST, BIGGEST // 48 * 48):
            with self.subTest(time=time):
                self.assertEqual(last(begun, mix(0, time, [])), [-22])
                self.assertEqual(last(begun, mix(0, time, [1] * 1536)), [-22])

    def test_refused_all_is_as_it_was(self):
        calls = [begin(0, 1, 1), told(0, UNIT, 0, 0), sealed(1, 48), mix(0, 1, [3] * 48), mix(0, 0, [7] * 48)]
        self.assertEqual(run(*calls)[3:], [[-22], [0] + [7] * 48 + [0] * 336])

    def test_straight_through(self):
        samples = [place * 1000 - 20000 for place in range(48)]
        self.assertEqual(self.mixed([begin(0, 1, 1), told(0, UNIT, 0, 0), sealed(1, 48)], samples),
                         [0] + samples + [0] * 336)

    def test_in_stands_channel_by_channel_and_out_bus_by_bus(self):
        calls = [begin(0, 3, 3), told(0, UNIT, 0, 0, 0, 2), told(1, UNIT, 0, 0, 1, 0), told(2, UNIT, 0, 0, 2, 0),
                 told(3, UNIT, 0, 0, 2, 1), sealed(4, 48)]
        samples = list(range(1000, 1144))
        out = self.mixed(calls, samples)
        self.assertEqual(out[0], 0)
        self.assertEqual(block(out, 0), [a + b for a, b in zip(samples[48:96], samples[96:])])
        self.assertEqual(block(out, 1), samples[96:])
        self.assertEqual(block(out, 2), samples[:48])
        self.assertEqual(out[145:], [0] * 240)

    def test_all_channels_and_buses(self):
        orders = [told(place, 1 + place, 0, 0, place // 8, place % 8) for place in range(256)]
        samples = [(channel + 1) * 65536 + sample * 65536 for channel in range(32) for sample in range(48)]
        out = self.mixed([begin(0, 32, 8), *orders, sealed(256, 48)], samples)
        expected = [sum((1 + channel * 8 + bus) * (channel + 1 + sample) for channel in range(32))
                    for bus in range(8) for sample in range(48)]
        self.assertEqual(out, [0] + expected)

    def test_fewer_numbers_than_the_channels_have(self):
        calls = [begin(0, 2, 1), told(0, UNIT, 0, 0, 0), told(1, UNIT, 0, 0, 1), sealed(2, 48)]
        self.assertEqual(self.mixed(calls, [5] * 50), [0] + [10] * 2 + [5] * 46 + [0] * 336)
        self.assertEqual(self.mixed(calls, [5] * 48), [0] + [5] * 48 + [0] * 336)
        self.assertEqual(self.mixed(calls, [5] * 47), [0] + [5] * 47 + [0] * 337)
        self.assertEqual(self.mixed(calls, [5]), [0, 5] + [0] * 383)
        self.assertEqual(self.mixed(calls, [5] * 95), [0] + [10] * 47 + [5] + [0] * 336)
        self.assertEqual(self.mixed(calls, []), [0] * 385)

    def test_more_numbers_than_the_channels_have(self):
        calls = [begin(0, 2, 2), told(0, UNIT, 0, 0, 0), told(1, UNIT, 0, 0, 1), told(2, UNIT, 0, 0, 2),
                 told(3, UNIT, 0, 0, 2, 1), sealed(4, 48)]
        for more in (1, 48, 1440):
            self.assertEqual(self.mixed(calls, [3] * 96 + [HIGHEST] * more), [0] + [6] * 48 + [0] * 336)

    def test_nothing_comes_of_buses_that_the_board_has_not(self):
        calls = [begin(0, 1, 2), *[told(bus, UNIT, 0, 0, 0, bus) for bus in range(8)], sealed(8, 48)]
        self.assertEqual(self.mixed(calls, [3] * 48), [0] + [3] * 96 + [0] * 288)

    def test_rounded_down_below_nothing_too(self):
        calls = [begin(0, 1, 1), told(0, 32768, 0, 0), sealed(1, 48)]
        self.assertEqual(self.mixed(calls, [3, 2, 1, 0, -1, -2, -3, -4])[:9], [0, 1, 1, 0, 0, -1, -1, -2, -2])
        calls = [begin(0, 1, 1), told(0, 1, 0, 0), sealed(1, 48)]
        self.assertEqual(self.mixed(calls, [65535, 65536, -1, -65536, -65537])[:7], [0, 0, 1, -1, -1, -2, 0])

    def test_rounded_once_for_all_channels(self):
        calls = [begin(0, 3, 1), *[told(channel, 32768, 0, 0, channel) for channel in range(3)], sealed(3, 48)]
        self.assertEqual(self.mixed(calls, [1] * 144)[:3], [0, 1, 1])
        self.assertEqual(self.mixed(calls, [-1] * 144)[:3], [0, -2, -2])

    def test_cut_at_both_ends_and_how_many(self):
        calls = [begin(0, 1, 1), told(0, UNIT, 0, 0), sealed(1, 48)]
        samples = [HIGHEST, HIGHEST + 1, LOWEST, LOWEST - 1, 2 ** 31 - 1, -2 ** 31, HIGHEST - 1, LOWEST + 1]
        self.assertEqual(self.mixed(calls, samples)[:10],
                         [4, HIGHEST, HIGHEST, LOWEST, LOWEST, HIGHEST, LOWEST, HIGHEST - 1, LOWEST + 1, 0])

    def test_cut_behind_the_rounding(self):
        calls = [begin(0, 2, 1), told(0, UNIT, 0, 0), told(1, 32768, 0, 0, 1), sealed(2, 48)]
        samples = [HIGHEST, HIGHEST, LOWEST, LOWEST] + [0] * 44 + [1, 2, -1, 1]
        self.assertEqual(self.mixed(calls, samples)[:6], [2, HIGHEST, HIGHEST, LOWEST, LOWEST, 0])

    def test_cut_behind_the_sum(self):
        calls = [begin(0, 2, 1), told(0, UNIT, 0, 0), told(1, UNIT, 0, 0, 1), sealed(2, 48)]
        samples = [2 ** 31 - 1] * 48 + [-2 ** 31] * 48
        self.assertEqual(self.mixed(calls, samples), [0] + [-1] * 48 + [0] * 336)
        self.assertEqual(self.mixed(calls, [HIGHEST] * 96), [48] + [HIGHEST] * 48 + [0] * 336)

    def test_every_sample_may_be_cut(self):
        orders = [told(place, UNIT, 0, 0, place // 8, place % 8) for place in range(256)]
        begun = [begin(0, 32, 8), *orders]
        self.assertEqual(self.mixed([*begun, sealed(256, 48)], [2 ** 31 - 1] * 1536), [384] + [HIGHEST] * 384)
        self.assertEqual(self.mixed([*begun, sealed(256, 47)], [-2 ** 31] * 1536), [1384] + [LOWEST] * 384)

    def test_cut_on_several_buses(self):
        calls = [begin(0, 1, 3), told(0, UNIT, 0, 0), told(1, UNIT, 0, 0, 0, 2), told(2, 32768, 0, 0, 0, 1),
                 sealed(3, 48)]
        out = self.mixed(calls, [HIGHEST + 1, 5])
        self.assertEqual(out[0], 2)
        self.assertEqual([block(out, bus)[:2] for bus in range(3)], [[HIGHEST, 5], [4194304, 2], [HIGHEST, 5]])

    def test_whole_by_the_seals_time(self):
        begun = [begin(0, 1, 1)]
        for time, sealed_time, first in ((0, 47, 1000), (0, 48, 0), (0, 49, 0), (48, 48, 1000), (48, 95, 1000),
                                         (48, 96, 0), (4800, 4848, 0), (4800, 4847, 1000), (4800, TIME_END, 0)):
            with self.subTest(time=time, sealed_time=sealed_time):
                self.assertEqual(self.mixed([*begun, sealed(0, sealed_time)], [], time), [first] + [0] * 384)

    def test_never_whole_up_to_behind_the_end_of_time(self):
        calls = [begin(0, 1, 1), sealed(0, TIME_END)]
        self.assertEqual(self.mixed(calls, [], LAST_BLOCK)[0], 1000)
        self.assertEqual(self.mixed(calls, [], LAST_BLOCK - 48)[0], 0)

    def test_the_last_samples_of_all(self):
        calls = [begin(0, 1, 1), told(0, 96, 96, LAST_BLOCK - 48)]
        self.assertEqual(self.mixed(calls, [UNIT] * 48, LAST_BLOCK), [1000] + list(range(48, 96)) + [0] * 336)

    def test_whole_by_the_orders(self):
        calls = [begin(0, 1, 1), sealed(3, 48), told(0, 0, 0, 0), told(2, 0, 0, 0)]
        self.assertEqual(self.mixed(calls, [])[0], 1000)
        self.assertEqual(self.mixed([*calls, told(1, 0, 0, 0)], [])[0], 0)
        self.assertEqual(self.mixed([begin(0, 1, 1), sealed(1, 48)], [])[0], 1000)

    def test_an_order_that_lacks_counts_whenever_it_is_for(self):
        calls = [begin(0, 1, 1), told(0, 0, 0, 0), sealed(2, 480), mix(0, 0, []), told(1, 0, 0, 470), mix(0, 0, [])]
        self.assertEqual(firsts(*calls)[3:], [1000, 1, 0])

    def test_an_order_above_the_seals_number_does_not_count(self):
        self.assertEqual(self.mixed([begin(0, 1, 1), told(5, 0, 0, 0), sealed(0, 48)], [])[0], 0)

    def test_not_whole_it_comes_out_by_what_was_heard(self):
        calls = [begin(0, 1, 1), told(1, UNIT, 0, 0), sealed(2, 48)]
        self.assertEqual(self.mixed(calls, [9, HIGHEST + 1]), [1001, 9, HIGHEST] + [0] * 382)

    def test_gains_that_move_within_the_samples(self):
        calls = [begin(0, 1, 1), told(0, 48, 48, 96), sealed(1, 144)]
        self.assertEqual(self.mixed(calls, [UNIT] * 48, 96), [0] + list(range(48)) + [0] * 336)
        self.assertEqual(self.mixed(calls, [UNIT] * 48, 48), [0] * 385)
        self.assertEqual(self.mixed(calls, [UNIT] * 48, 144), [1000] + [48] * 48 + [0] * 336)

    def test_an_order_within_the_samples(self):
        calls = [begin(0, 2, 1), told(0, UNIT, 0, 10), told(1, 0, 0, 20), told(2, UNIT, 0, 47, 1), sealed(3, 48)]
        self.assertEqual(self.mixed(calls, [7] * 96), [0] + [0] * 10 + [7] * 10 + [0] * 27 + [7] + [0] * 336)

    def test_downwards_within_the_samples(self):
        calls = [begin(0, 1, 1), told(0, 10, 0, 0), told(1, 0, 4, 50), sealed(2, 96)]
        self.assertEqual(self.mixed(calls, [UNIT] * 48, 48)[:8], [0, 10, 10, 10, 7, 5, 2, 0])

    def test_each_sample_by_the_gain_that_is_told(self):
        calls = [begin(0, 1, 1), told(0, UNIT, 100, 5), told(1, 20000, 30, 40), told(2, 30000, 7, 90)]
        gains = firsts(*calls, *[gain(0, 0, 0, time) for time in range(144)])[4:]
        for time in (0, 48, 96):
            self.assertEqual(self.mixed(calls, [-1000003] * 48, time)[1:49],
                             [-1000003 * one // UNIT for one in gains[time:time + 48]])

    def test_it_changes_nothing(self):
        calls = [begin(0, 1, 1), told(0, UNIT, 48, 0), sealed(1, 96), mix(0, 48, [5] * 48), mix(0, 0, [UNIT] * 48),
                 mix(0, 48, [5] * 48), lacks(0), gain(0, 0, 0, 24)]
        answers = run(*calls)
        self.assertEqual(answers[3], answers[5])
        self.assertEqual(answers[6:], [[-11], [32768]])


if __name__ == "__main__":
    unittest.main()
