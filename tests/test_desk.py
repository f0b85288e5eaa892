"""Points 1 to 6: the calls of the desk."""

import unittest

from calls import (
    TIME_END, again, crc_32c, filled, firsts, go, keep, last, order, run, seal, sealing, start, turn,
)

BIG = 4294967295
BIGGEST = 2 ** 64 - 1


class Reference(unittest.TestCase):
    """The tests' own check is held against published values first."""

    def test_crc_of_known_rows(self):
        self.assertEqual(crc_32c(b"123456789"), 0xE3069283)
        self.assertEqual(crc_32c(bytes(32)), 0x8A9136AA)
        self.assertEqual(crc_32c(b"\xff" * 32), 0x62A8AB43)
        self.assertEqual(crc_32c(bytes(range(32))), 0x46DD794E)


class Start(unittest.TestCase):
    """Point 1."""

    def test_sizes_that_are_taken(self):
        for channels, buses in ((1, 1), (32, 8), (1, 8), (32, 1), (16, 4)):
            with self.subTest(channels=channels, buses=buses):
                self.assertEqual(run(start(channels, buses)), [[0]])

    def test_sizes_that_are_refused(self):
        wrong = ((0, 1), (1, 0), (0, 0), (33, 1), (1, 9), (33, 9), (33, 8), (32, 9), (0, 8), (32, 0),
                 (BIG, 1), (1, BIG), (BIG, BIG))
        for channels, buses in wrong:
            with self.subTest(channels=channels, buses=buses):
                self.assertEqual(run(start(channels, buses)), [[-22]])

    def test_refused_first_and_taken_then(self):
        self.assertEqual(firsts(start(0, 1), start(1, 9), start(1, 1), turn(0, 0, 1, 0, 0)), [-22, -22, 0, 0])

    def test_the_sizes_bound_channel_and_bus(self):
        for channels, buses in ((1, 1), (32, 8), (5, 3)):
            with self.subTest(channels=channels, buses=buses):
                self.assertEqual(firsts(
                    start(channels, buses),
                    turn(channels - 1, buses - 1, 1, 0, 0),
                    turn(channels, 0, 1, 0, 0),
                    turn(0, buses, 1, 0, 0),
                ), [0, 0, -22, -22])

    def test_again_it_is_a_new_desk(self):
        begun = [start(4, 4), turn(3, 3, 9, 0, 50), keep(0), seal(100), start(2, 2)]
        self.assertEqual(last(*begun), [0])
        self.assertEqual(last(*begun, again(0)), [-2])
        self.assertEqual(last(*begun, go(0, 0, 100)), [-2])
        self.assertEqual(last(*begun, turn(2, 0, 1, 0, 0)), [-22])
        self.assertEqual(last(*begun, turn(0, 2, 1, 0, 0)), [-22])
        self.assertEqual(last(*begun, turn(1, 1, 7, 8, 0)), order(0, 1, 1, 7, 8, 0))
        self.assertEqual(last(*begun, seal(0)), sealing(0, 0))

    def test_again_with_like_sizes_all_gains_go_to_nothing(self):
        begun = [start(2, 2), keep(1), turn(1, 1, 9, 0, 50), start(2, 2)]
        self.assertEqual(last(*begun, keep(0), go(0, 0, 0)), [0])
        self.assertEqual(firsts(*begun, keep(0), turn(1, 1, 5, 0, 10), go(0, 3, 10))[-1], 1)
        self.assertEqual(last(*begun, keep(0), turn(1, 1, 5, 0, 10), go(0, 3, 10), again(1)),
                         order(1, 1, 1, 0, 3, 10))

    def test_refused_again_all_stays(self):
        for wrong in (start(0, 4), start(4, 9), start(33, 1), start(BIG, BIG)):
            with self.subTest(wrong=wrong):
                begun = [start(4, 4), turn(3, 3, 9, 2, 50), keep(0), turn(3, 3, 8, 0, 60), seal(60), wrong]
                self.assertEqual(last(*begun), [-22])
                self.assertEqual(last(*begun, again(0)), order(0, 3, 3, 9, 2, 50))
                self.assertEqual(last(*begun, again(1)), order(1, 3, 3, 8, 0, 60))
                self.assertEqual(last(*begun, turn(0, 0, 1, 0, 59)), [-13])
                self.assertEqual(last(*begun, turn(3, 3, 1, 0, 60)), order(2, 3, 3, 1, 0, 60))
                self.assertEqual(last(*begun, go(0, 5, 60), again(2)), order(2, 3, 3, 9, 5, 60))


class Turn(unittest.TestCase):
    """Point 2."""

    def test_messages_by_hand(self):
        begun = start(32, 8)
        self.assertEqual(last(begun, turn(0, 0, 0, 0, 0)), [
            0, 1, 0, 0, 0, 0, 0, 0, 0, 0, 0, 0, 0, 0, 0, 0, 0, 0, 0, 0, 0, 0, 0, 0, 0, 0x60, 0x2E, 0xB4, 0x3E])
        self.assertEqual(last(begun, turn(2, 3, 0x8001, 0x12345, 0x0102030405)), [
            0, 1, 2, 3, 0, 0, 0, 0, 0, 5, 4, 3, 2, 1, 0, 0, 0, 1, 0x80, 0, 0, 0x45, 0x23, 1, 0,
            0x73, 0x91, 0x75, 0x9B])
        self.assertEqual(last(begun, turn(31, 7, 65536, 480000, TIME_END - 1)), [
            0, 1, 31, 7, 0, 0, 0, 0, 0, 255, 255, 255, 255, 255, 255, 0, 0, 0, 0, 1, 0, 0, 0x53, 7, 0,
            0xF5, 0x9C, 0x75, 0xD8])

    def test_numbers_go_up_from_nothing(self):
        calls = [turn(place % 3, place % 2, place * 100, place * 7, 1000 - place) for place in range(300)]
        expected = [order(place, place % 3, place % 2, place * 100, place * 7, 1000 - place)
                    for place in range(300)]
        self.assertEqual(run(start(3, 2), *calls)[1:], expected)

    def test_a_refusal_takes_no_number(self):
        self.assertEqual(firsts(
            start(1, 1), turn(0, 0, 1, 0, 5), turn(1, 0, 1, 0, 5), seal(5), turn(0, 0, 1, 0, 4), turn(0, 0, 1, 0, 5),
        ), [0, 0, -22, 1, -13, 1])

    def test_edges(self):
        begun = start(5, 3)
        for right in (turn(4, 2, 1, 1, 1), turn(0, 0, 65536, 0, 0), turn(0, 0, 0, 480000, 0),
                      turn(0, 0, 0, 0, TIME_END - 1)):
            with self.subTest(right=right):
                self.assertEqual(last(begun, right), order(0, *right[1:]))
        for wrong in (turn(5, 0, 0, 0, 0), turn(BIG, 0, 0, 0, 0), turn(0, 3, 0, 0, 0), turn(0, BIG, 0, 0, 0),
                      turn(0, 0, 65537, 0, 0), turn(0, 0, BIG, 0, 0), turn(0, 0, 0, 480001, 0),
                      turn(0, 0, 0, BIG, 0), turn(0, 0, 0, 0, TIME_END), turn(0, 0, 0, 0, BIGGEST)):
            with self.subTest(wrong=wrong):
                self.assertEqual(run(begun, wrong, again(0))[1:], [[-22], [-2]])

    def test_not_before_the_time_sealed_last(self):
        begun = [start(2, 2), seal(1000)]
        self.assertEqual(last(*begun, turn(1, 1, 5, 0, 999)), [-13])
        self.assertEqual(last(*begun, turn(1, 1, 5, 0, 0)), [-13])
        self.assertEqual(last(*begun, turn(1, 1, 5, 0, 1000)), order(0, 1, 1, 5, 0, 1000))
        self.assertEqual(last(*begun, seal(2000), turn(1, 1, 5, 0, 1999)), [-13])

    def test_before_another_order_is_no_refusal(self):
        self.assertEqual(last(start(1, 1), turn(0, 0, 5, 0, 100), turn(0, 0, 6, 0, 99)), order(1, 0, 0, 6, 0, 99))

    def test_no_room_behind_4096_orders(self):
        self.assertEqual(run(*filled(4095), turn(3, 2, 7, 8, 9), turn(3, 2, 7, 8, 9), again(4095), again(4096))[-4:],
                         [order(4095, 3, 2, 7, 8, 9), [-28], order(4095, 3, 2, 7, 8, 9), [-2]])
        self.assertEqual(last(*filled(4096), turn(0, 0, 0, 0, 0)), [-28])

    def test_with_no_room_all_is_as_it_was(self):
        calls = filled(4096) + [turn(0, 0, 9, 0, 10), go(0, 0, 0), seal(20)]
        self.assertEqual(run(*calls)[-3:], [[-28], [0], sealing(4096, 20)])

    def test_which_refusal_comes_first(self):
        full = filled(4096) + [seal(100)]
        self.assertEqual(last(*full, turn(0, 0, 65537, 0, 0)), [-22])
        self.assertEqual(last(*full, turn(32, 0, 0, 0, 0)), [-22])
        self.assertEqual(last(*full, turn(0, 0, 0, 0, TIME_END)), [-22])
        self.assertEqual(last(*full, turn(0, 0, 0, 0, 99)), [-13])
        self.assertEqual(last(*full, turn(0, 0, 0, 0, 100)), [-28])
        self.assertEqual(last(start(1, 1), seal(TIME_END), turn(0, 0, 0, 480001, 0)), [-22])
        self.assertEqual(last(start(1, 1), seal(TIME_END), turn(0, 0, 0, 0, TIME_END)), [-22])


class Keep(unittest.TestCase):
    """Point 3. What is kept is seen in the orders that sd_go makes of it."""

    def kept_gain(self, *turns):
        """Where the one gain of a small desk went behind the turns, by way of a scene."""
        calls = [start(1, 1), *turns, keep(4), turn(0, 0, 65536, 0, 5000), go(4, 0, 5000), again(len(turns) + 1)]
        answers = run(*calls)
        self.assertEqual(answers[-2], [1])
        number = len(turns) + 1
        gain = int.from_bytes(bytes(answers[-1][17:21]), "little")
        self.assertEqual(answers[-1], order(number, 0, 0, gain, 0, 5000))
        return gain

    def test_scene_numbers(self):
        begun = start(2, 2)
        for scene in range(16):
            self.assertEqual(last(begun, keep(scene)), [0])
        for scene in (16, 17, 255, 256, BIG):
            self.assertEqual(last(begun, keep(scene)), [-22])

    def test_without_orders_all_is_nothing(self):
        self.assertEqual(self.kept_gain(), 0)

    def test_the_later_time_counts(self):
        self.assertEqual(self.kept_gain(turn(0, 0, 11, 0, 100), turn(0, 0, 22, 0, 200)), 22)
        self.assertEqual(self.kept_gain(turn(0, 0, 22, 0, 200), turn(0, 0, 11, 0, 100)), 22)
        self.assertEqual(self.kept_gain(turn(0, 0, 22, 0, 200), turn(0, 0, 11, 0, 199)), 22)
        self.assertEqual(self.kept_gain(turn(0, 0, 22, 0, 200), turn(0, 0, 33, 0, 300), turn(0, 0, 11, 0, 250)), 33)

    def test_of_like_times_the_greater_number_counts(self):
        self.assertEqual(self.kept_gain(turn(0, 0, 11, 0, 100), turn(0, 0, 22, 0, 100)), 22)
        self.assertEqual(self.kept_gain(turn(0, 0, 22, 0, 100), turn(0, 0, 11, 0, 100)), 11)
        self.assertEqual(self.kept_gain(turn(0, 0, 22, 0, 0), turn(0, 0, 11, 0, 0)), 11)
        self.assertEqual(
            self.kept_gain(turn(0, 0, 11, 0, 100), turn(0, 0, 22, 0, 50), turn(0, 0, 33, 0, 100)), 33)

    def test_the_fade_does_not_count(self):
        self.assertEqual(self.kept_gain(turn(0, 0, 11, 480000, 100), turn(0, 0, 22, 0, 101)), 22)
        self.assertEqual(self.kept_gain(turn(0, 0, 11, 480000, 100)), 11)

    def test_each_gain_by_its_own_orders(self):
        calls = [start(2, 2), turn(0, 1, 1, 0, 900), turn(1, 0, 2, 0, 100), turn(1, 1, 3, 0, 50), keep(0),
                 turn(0, 0, 9, 0, 1000), turn(0, 1, 9, 0, 1000), turn(1, 0, 9, 0, 1000), turn(1, 1, 9, 0, 1000),
                 go(0, 6, 1000), again(7), again(8), again(9), again(10), again(11)]
        self.assertEqual(run(*calls)[-6:], [
            [4], order(7, 0, 0, 0, 6, 1000), order(8, 0, 1, 1, 6, 1000), order(9, 1, 0, 2, 6, 1000),
            order(10, 1, 1, 3, 6, 1000), [-2]])

    def test_kept_again_it_is_the_newer(self):
        calls = [start(1, 1), keep(0), turn(0, 0, 5, 0, 0), keep(0), turn(0, 0, 6, 0, 0), go(0, 0, 0), again(2)]
        self.assertEqual(last(*calls), order(2, 0, 0, 5, 0, 0))

    def test_each_scene_by_itself(self):
        calls = [start(1, 1), keep(0), turn(0, 0, 5, 0, 0), keep(15), go(0, 0, 0), again(1), go(15, 0, 0), again(2)]
        self.assertEqual(run(*calls)[4:], [[1], order(1, 0, 0, 0, 0, 0), [1], order(2, 0, 0, 5, 0, 0)])

    def test_what_comes_later_does_not_change_a_scene(self):
        calls = [start(1, 1), turn(0, 0, 5, 0, 0), keep(0), turn(0, 0, 6, 0, 0), go(0, 0, 0), go(0, 0, 0)]
        self.assertEqual(run(*calls)[-2:], [[1], [0]])

    def test_refused_it_keeps_nothing(self):
        calls = [start(1, 1), turn(0, 0, 5, 0, 0), keep(16), go(0, 0, 0), go(15, 0, 0)]
        self.assertEqual(firsts(*calls), [0, 0, -22, -2, -2])


class Go(unittest.TestCase):
    """Point 4."""

    def test_not_as_told(self):
        begun = [start(2, 2), keep(15), turn(0, 0, 1, 0, 0)]
        for wrong in (go(16, 0, 0), go(BIG, 0, 0), go(15, 480001, 0), go(15, BIG, 0), go(15, 0, TIME_END),
                      go(15, 0, BIGGEST)):
            with self.subTest(wrong=wrong):
                self.assertEqual(run(*begun, wrong, again(1))[-2:], [[-22], [-2]])
        self.assertEqual(run(*begun, go(15, 480000, TIME_END - 1), again(1))[-2:],
                         [[1], order(1, 0, 0, 0, 480000, TIME_END - 1)])

    def test_nothing_kept_there(self):
        for scene in range(16):
            self.assertEqual(last(start(1, 1), go(scene, 0, 0)), [-2])
        self.assertEqual(last(start(1, 1), keep(1), go(0, 0, 0)), [-2])

    def test_not_before_the_time_sealed_last(self):
        begun = [start(1, 1), keep(0), turn(0, 0, 3, 0, 10), seal(100)]
        self.assertEqual(last(*begun, go(0, 0, 99)), [-13])
        self.assertEqual(run(*begun, go(0, 0, 100), again(1))[-2:], [[1], order(1, 0, 0, 0, 0, 100)])

    def test_not_before_any_order(self):
        begun = [start(2, 1), keep(0), turn(0, 0, 3, 0, 70), turn(1, 0, 3, 0, 30)]
        self.assertEqual(last(*begun, go(0, 0, 69)), [-13])
        self.assertEqual(last(*begun, go(0, 0, 30)), [-13])
        self.assertEqual(run(*begun, go(0, 0, 70), again(2), again(3))[-3:],
                         [[2], order(2, 0, 0, 0, 0, 70), order(3, 1, 0, 0, 0, 70)])

    def test_an_order_that_is_not_the_last_made_counts_too(self):
        begun = [start(1, 1), keep(0), turn(0, 0, 3, 0, 50), turn(0, 0, 4, 0, 90), turn(0, 0, 5, 0, 20)]
        self.assertEqual(last(*begun, go(0, 0, 89)), [-13])
        self.assertEqual(last(*begun, go(0, 0, 90)), [1])

    def test_not_before_orders_of_an_earlier_go(self):
        begun = [start(1, 1), keep(0), turn(0, 0, 3, 0, 0), keep(1), go(0, 0, 500)]
        self.assertEqual(last(*begun, go(1, 0, 499)), [-13])
        self.assertEqual(last(*begun, go(1, 0, 500)), [1])

    def test_too_early_with_nothing_to_change_either(self):
        begun = [start(1, 1), turn(0, 0, 3, 0, 50), keep(0)]
        self.assertEqual(last(*begun, go(0, 0, 49)), [-13])
        self.assertEqual(last(*begun, go(0, 0, 50)), [0])
        self.assertEqual(last(*begun, seal(60), go(0, 0, 59)), [-13])

    def test_refused_as_too_early_all_is_as_it_was(self):
        calls = [start(1, 1), keep(0), turn(0, 0, 3, 0, 50), go(0, 0, 49), again(1), go(0, 1, 50), again(1)]
        self.assertEqual(run(*calls)[3:], [[-13], [-2], [1], order(1, 0, 0, 0, 1, 50)])

    def test_orders_channel_by_channel_of_each_bus_by_bus(self):
        gains = {(channel, bus): 100 + 10 * channel + bus for channel in range(4) for bus in range(3)}
        backwards = [turn(channel, bus, gain, 0, 5) for (channel, bus), gain in reversed(list(gains.items()))]
        calls = [start(4, 3), *backwards, keep(7)]
        calls += [turn(channel, bus, 0, 0, 6) for channel, bus in gains]
        answers = run(*calls, go(7, 77, 88), *[again(24 + place) for place in range(13)])[-14:]
        expected = [order(24 + place, channel, bus, gain, 77, 88)
                    for place, ((channel, bus), gain) in enumerate(sorted(gains.items()))]
        self.assertEqual(answers, [[12]] + expected + [[-2]])

    def test_only_gains_that_go_elsewhere(self):
        calls = [start(3, 2), turn(0, 1, 10, 0, 1), turn(1, 0, 20, 0, 1), turn(2, 1, 30, 0, 1), keep(3),
                 turn(1, 1, 40, 0, 2), turn(2, 1, 31, 0, 2), turn(1, 0, 99, 0, 2), turn(1, 0, 20, 0, 2),
                 go(3, 9, 2), again(7), again(8), again(9)]
        self.assertEqual(run(*calls)[-4:], [[2], order(7, 1, 1, 0, 9, 2), order(8, 2, 1, 30, 9, 2), [-2]])

    def test_nothing_to_change(self):
        calls = [start(2, 2), turn(1, 1, 5, 0, 3), keep(0), go(0, 0, 3), again(1), go(0, 480000, TIME_END - 1),
                 turn(0, 0, 1, 0, 0)]
        self.assertEqual(run(*calls)[3:], [[0], [-2], [0], order(1, 0, 0, 1, 0, 0)])

    def test_with_nothing_made_its_time_is_no_orders_time(self):
        calls = [start(1, 1), keep(0), go(0, 0, 1000), go(0, 0, 5)]
        self.assertEqual(firsts(*calls), [0, 0, 0, 0])

    def test_a_scene_kept_while_all_gains_are_nothing(self):
        calls = [start(2, 1), keep(0), go(0, 0, 0), turn(1, 0, 5, 0, 4), go(0, 2, 9), again(1), go(0, 2, 9)]
        self.assertEqual(run(*calls)[2:], [[0], order(0, 1, 0, 5, 0, 4), [1], order(1, 1, 0, 0, 2, 9), [0]])

    def test_as_in_the_scene(self):
        calls = [start(2, 2), turn(0, 0, 5, 0, 40), turn(0, 0, 6, 0, 10), turn(1, 1, 7, 0, 20), keep(0),
                 turn(0, 0, 8, 0, 90), turn(0, 1, 9, 0, 80), turn(1, 1, 0, 0, 20), go(0, 0, 90),
                 go(0, 0, 90), keep(1), turn(0, 0, 1, 0, 90), go(1, 0, 90), go(0, 0, 90)]
        self.assertEqual([answer[0] for answer in run(*calls)[8:]], [3, 0, 0, 9, 1, 0])

    def test_up_to_4096_orders(self):
        begun = filled(4095)
        self.assertEqual(run(*begun, go(2, 5, 6), again(4095), again(4096))[-3:],
                         [[1], order(4095, 31, 7, 0, 5, 6), [-2]])
        self.assertEqual(last(*filled(4094), go(3, 5, 6), again(4095)), order(4095, 31, 7, 0, 5, 6))
        self.assertEqual(run(*filled(3840), go(0, 0, 0), again(3840), again(4095))[-3:],
                         [[256], order(3840, 0, 0, 0, 0, 0), order(4095, 31, 7, 0, 0, 0)])

    def test_no_room_for_all_of_them(self):
        begun = filled(4095)
        self.assertEqual(last(*begun, go(3, 0, 0)), [-28])
        self.assertEqual(last(*begun, go(0, 0, 0)), [-28])
        self.assertEqual(last(*filled(3841), go(0, 0, 0)), [-28])
        self.assertEqual(last(*filled(4096), go(1, 0, 0)), [-28])

    def test_with_no_room_all_is_as_it_was(self):
        calls = filled(4095) + [go(3, 0, 50), again(4095), seal(0), go(1, 0, 0), go(2, 8, 9), again(4095)]
        self.assertEqual(run(*calls)[-6:],
                         [[-28], [-2], sealing(4095, 0), [0], [1], order(4095, 31, 7, 0, 8, 9)])

    def test_nothing_to_change_needs_no_room(self):
        self.assertEqual(last(*filled(4096), go(0, 0, 0)), [0])

    def test_which_refusal_comes_first(self):
        full = filled(4096) + [seal(100)]
        self.assertEqual(last(*full, go(16, 0, 0)), [-22])
        self.assertEqual(last(*full, go(9, 480001, 0)), [-22])
        self.assertEqual(last(*full, go(9, 0, TIME_END)), [-22])
        self.assertEqual(last(*full, go(1, 480001, 0)), [-22])
        self.assertEqual(last(*full, go(9, 0, 0)), [-2])
        self.assertEqual(last(*full, go(1, 0, 99)), [-13])
        self.assertEqual(last(*full, go(1, 0, 100)), [-28])
        late = filled(4095) + [turn(0, 0, 1, 0, 50)]
        self.assertEqual(last(*late, go(9, 0, 49)), [-2])
        self.assertEqual(last(*late, go(0, 0, 49)), [-13])
        self.assertEqual(last(*late, go(0, 0, 50)), [-28])


class Seal(unittest.TestCase):
    """Point 5."""

    def test_messages_by_hand(self):
        self.assertEqual(last(start(1, 1), seal(0)), [
            0, 2, 0, 0, 0, 0, 0, 0, 0, 0, 0, 0, 0, 0, 0, 0, 0, 0, 0, 0, 0, 0, 0, 0, 0, 3, 0x1F, 0x88, 0xF5])
        self.assertEqual(last(start(1, 1), turn(0, 0, 1, 0, 0), turn(0, 0, 1, 0, 0), seal(TIME_END)), [
            2, 2, 0, 0, 0, 2, 0, 0, 0, 0, 0, 0, 0, 0, 0, 1, 0, 0, 0, 0, 0, 0, 0, 0, 0, 0xDC, 0x8B, 0x59, 0x50])

    def test_counts_all_orders_there_are(self):
        calls = [start(2, 1), seal(5), turn(0, 0, 1, 0, 900), seal(6), keep(0), turn(1, 0, 1, 0, 9),
                 turn(0, 0, 2, 0, 900), go(0, 0, 900), seal(0x060504030201)]
        answers = run(*calls)
        self.assertEqual([answers[1], answers[3], answers[8]],
                         [sealing(0, 5), sealing(1, 6), sealing(5, 0x060504030201)])
        self.assertEqual(last(*filled(4096), seal(1)), sealing(4096, 1))

    def test_not_above_the_end_of_time(self):
        self.assertEqual(last(start(1, 1), seal(TIME_END - 1)), sealing(0, TIME_END - 1))
        self.assertEqual(last(start(1, 1), seal(TIME_END)), sealing(0, TIME_END))
        for wrong in (TIME_END + 1, BIGGEST):
            self.assertEqual(run(start(1, 1), seal(wrong), turn(0, 0, 1, 0, 0))[1:], [[-22], order(0, 0, 0, 1, 0, 0)])

    def test_not_before_the_one_sealed_last(self):
        self.assertEqual(firsts(start(1, 1), seal(100), seal(99), seal(0), seal(100), seal(101), seal(100)),
                         [0, 0, -13, -13, 0, 0, -13])
        self.assertEqual(firsts(start(1, 1), seal(TIME_END), seal(TIME_END), seal(TIME_END - 1), seal(TIME_END + 1)),
                         [0, 0, 0, -13, -22])

    def test_the_same_time_again(self):
        calls = [start(1, 1), seal(100), turn(0, 0, 1, 0, 100), seal(100)]
        self.assertEqual(run(*calls)[1:], [sealing(0, 100), order(0, 0, 0, 1, 0, 100), sealing(1, 100)])

    def test_refused_it_seals_nothing(self):
        calls = [start(1, 1), seal(100), seal(50), turn(0, 0, 1, 0, 99), seal(TIME_END + 1), turn(0, 0, 1, 0, 100)]
        self.assertEqual(firsts(*calls), [0, 0, -13, -13, -22, 0])

    def test_before_an_order_is_no_refusal(self):
        self.assertEqual(last(start(1, 1), turn(0, 0, 1, 0, 500), seal(10)), sealing(1, 10))

    def test_sealed_is_sealed(self):
        begun = [start(1, 1), keep(0), turn(0, 0, 1, 0, 0), seal(TIME_END)]
        for time in (0, 1, TIME_END - 1):
            self.assertEqual(last(*begun, turn(0, 0, 1, 0, time)), [-13])
            self.assertEqual(last(*begun, go(0, 0, time)), [-13])

    def test_sealing_does_not_change_orders_or_scenes(self):
        calls = [start(1, 1), keep(0), turn(0, 0, 4, 3, 2), seal(7), again(0), go(0, 0, 7), again(1)]
        self.assertEqual(run(*calls)[-3:], [order(0, 0, 0, 4, 3, 2), [1], order(1, 0, 0, 0, 0, 7)])


class Again(unittest.TestCase):
    """Point 6."""

    def test_a_number_that_there_is(self):
        begun = [start(4, 4), turn(1, 2, 3, 4, 5), turn(3, 2, 1, 0, 1), turn(0, 0, 65536, 480000, 7)]
        self.assertEqual(run(*begun, again(0), again(2), again(1), again(0))[-4:], [
            order(0, 1, 2, 3, 4, 5), order(2, 0, 0, 65536, 480000, 7), order(1, 3, 2, 1, 0, 1),
            order(0, 1, 2, 3, 4, 5)])

    def test_it_says_what_was_said_at_first(self):
        answers = run(start(4, 4), turn(1, 2, 3, 4, 5), seal(1000), turn(1, 2, 9, 9, 1000), again(0), again(1))
        self.assertEqual(answers[-2:], [answers[1], answers[3]])

    def test_a_number_that_there_is_not(self):
        self.assertEqual(last(start(1, 1), again(0)), [-2])
        self.assertEqual(last(start(1, 1), turn(0, 0, 1, 0, 0), again(1)), [-2])
        self.assertEqual(last(start(1, 1), turn(0, 0, 1, 0, 0), again(BIG)), [-2])
        self.assertEqual(last(start(1, 1), turn(0, 0, 1, 0, 0), again(4096)), [-2])

    def test_it_makes_no_order(self):
        calls = [start(1, 1), turn(0, 0, 1, 0, 0), again(0), again(9), seal(0)]
        self.assertEqual(last(*calls), sealing(1, 0))


if __name__ == "__main__":
    unittest.main()
