"""The calls that set the board, patch aside: what each sets, its edges and its refusals."""

import unittest

from support import (
    ADDS, CHANNELS, GREATEST, HOLDS_DOWN, answered, asked_after, black, board_after, fader, flash, free, grand,
    last_answer, level, master, park, patch, play, solo, state_after,
)

NO_CHANNELS = (0, 65, 66, 128, GREATEST)
NO_LEVELS = (101, 102, 255, GREATEST)
NO_MASTERS = (8, 9, 64, GREATEST)
NO_CHOICES = (2, 3, 255, GREATEST)

# A board on which nothing stands as at first, so that a change by a refused call shows.
BUSY = (
    patch("3 4 switch 90 100 2\n"), play(1, 11), play(64, 12), master(0, ADDS, 1, 21, 64, 22), fader(0, 23),
    flash(0, 1), master(7, ADDS, 2, 31), fader(7, 32), solo(7, 1), master(3, HOLDS_DOWN, 5, 41), fader(3, 42),
    grand(51), black(1), park(10, 61), park(64, 62),
)


class AtFirst(unittest.TestCase):
    def test_how_all_stands(self):
        board = board_after()
        self.assertEqual(board.dimmers, [])
        self.assertEqual(board.played, [0] * 64)
        self.assertEqual(len(board.masters), 8)
        for one in board.masters:
            self.assertEqual((one.kind, one.levels, one.fader, one.flashed, one.soloed), (ADDS, {}, 0, 0, 0))
        self.assertEqual(board.grand, 100)
        self.assertEqual(board.black, 0)
        self.assertEqual(board.parked, {})

    def test_masters_are_apart(self):
        board = board_after(fader(0, 5), master(1, ADDS, 1, 2))
        self.assertEqual([one.fader for one in board.masters], [5, 0, 0, 0, 0, 0, 0, 0])
        self.assertEqual([one.levels for one in board.masters], [{}, {1: 2}, {}, {}, {}, {}, {}, {}])

    def test_all_masters_add(self):
        calls = [flash(number, 1) for number in range(8)] + [solo(number, 1) for number in range(8)]
        self.assertEqual(answered(*calls), [[0]] * 16)


class Case(unittest.TestCase):
    def refused(self, call, number=-1):
        """The call answers this number alone and changes nothing, on a new board and on a busy one."""
        self.assertEqual(last_answer(*BUSY, call), [number], call)
        self.assertEqual(state_after(*BUSY, call), state_after(*BUSY), call)
        self.assertEqual(asked_after(*BUSY, black(0), call), asked_after(*BUSY, black(0)), call)

    def refused_at_first_too(self, call):
        self.refused(call)
        self.assertEqual(last_answer(call), [-1], call)
        self.assertEqual(state_after(call), state_after(), call)

    def changed(self, call, *path_and_value):
        """The call answers 0 and changes just what stands there."""
        *path, value = path_and_value
        self.assertEqual(last_answer(*BUSY, call), [0], call)
        expected = state_after(*BUSY)
        place = expected
        for step in path[:-1]:
            place = place[step]
        place[path[-1]] = value
        self.assertEqual(state_after(*BUSY, call), expected, call)


class Busy(unittest.TestCase):
    def test_all_of_it_is_taken(self):
        self.assertEqual(answered(*BUSY), [[1]] + [[0]] * (len(BUSY) - 1))


class Play(Case):
    def test_ordinary_and_edges(self):
        for channel in (1, 2, 33, 63, 64):
            for at in (0, 1, 50, 99, 100):
                self.changed(play(channel, at), "played", channel - 1, at)

    def test_the_last_level_counts(self):
        for levels in ((90, 10), (10, 90), (90, 0)):
            board = board_after(*[play(7, at) for at in levels])
            self.assertEqual(board.played[6], levels[-1])

    def test_no_such_channel_or_level(self):
        for channel in NO_CHANNELS:
            for at in (0, 50, 100, 101):
                self.refused_at_first_too(play(channel, at))
        for at in NO_LEVELS:
            for channel in (1, 64):
                self.refused_at_first_too(play(channel, at))


class Master(Case):
    def set_so(self, number, kind, *levels):
        expected = {
            "kind": kind, "levels": dict(zip(levels[0::2], levels[1::2])), "fader": 0, "flashed": 0, "soloed": 0,
        }
        self.changed(master(number, kind, *levels), "masters", number, expected)

    def test_each_master_and_kind(self):
        for number in range(8):
            for kind in (ADDS, HOLDS_DOWN):
                self.set_so(number, kind, 1, 0, 2, 100, 40, 50, 64, 99)

    def test_no_levels(self):
        self.set_so(0, ADDS)
        self.set_so(0, HOLDS_DOWN)

    def test_one_level_at_each_edge(self):
        for channel in (1, 2, 63, 64):
            for at in (0, 1, 99, 100):
                self.set_so(5, ADDS, channel, at)

    def test_a_level_for_every_channel(self):
        levels = [number for channel in range(1, 65) for number in (channel, 100 - channel)]
        self.assertEqual(len(levels), 128)
        self.set_so(6, HOLDS_DOWN, *levels)

    def test_levels_may_fall_and_be_equal(self):
        self.set_so(2, ADDS, 1, 90, 2, 10, 3, 10)

    def test_channels_of_before_are_gone(self):
        self.assertEqual(board_after(master(4, ADDS, 1, 2, 3, 4), master(4, ADDS, 3, 5)).masters[4].levels, {3: 5})

    def test_fader_flash_and_solo_are_off_again(self):
        for kind in (ADDS, HOLDS_DOWN):
            one = board_after(
                master(1, ADDS, 1, 50), fader(1, 80), flash(1, 1), solo(1, 1), master(1, kind, 1, 50)
            ).masters[1]
            self.assertEqual((one.kind, one.levels, one.fader, one.flashed, one.soloed), (kind, {1: 50}, 0, 0, 0))

    def test_a_master_may_change_its_kind_both_ways(self):
        self.assertEqual(
            answered(
                master(1, HOLDS_DOWN, 1, 50), flash(1, 1), solo(1, 1), master(1, ADDS, 1, 50), flash(1, 1), solo(1, 1)
            ),
            [[0], [-3], [-3], [0], [0], [0]],
        )

    def test_no_such_master_or_kind(self):
        for number in NO_MASTERS:
            self.refused_at_first_too(master(number, ADDS, 1, 50))
            self.refused_at_first_too(master(number, HOLDS_DOWN))
        for kind in NO_CHOICES:
            self.refused_at_first_too(master(0, kind, 1, 50))
            self.refused_at_first_too(master(7, kind))

    def test_an_odd_number_of_numbers(self):
        for levels in ((1,), (0,), (1, 50, 2), (1, 50, 2, 60, 3), (1, 50, GREATEST)):
            self.refused_at_first_too(master(0, HOLDS_DOWN, *levels))

    def test_channels_that_are_equal_or_fall(self):
        for levels in ((5, 1, 5, 2), (5, 1, 4, 2), (64, 1, 1, 2), (1, 9, 2, 9, 2, 9), (1, 9, 7, 9, 3, 9)):
            self.refused_at_first_too(master(0, HOLDS_DOWN, *levels))

    def test_no_such_channel(self):
        for channel in NO_CHANNELS:
            self.refused_at_first_too(master(0, HOLDS_DOWN, channel, 50))
        for channel in (65, GREATEST):
            self.refused_at_first_too(master(0, HOLDS_DOWN, 1, 50, channel, 50))
        self.refused_at_first_too(master(0, HOLDS_DOWN, 0, 50, 1, 50))

    def test_no_such_level(self):
        for at in NO_LEVELS:
            self.refused_at_first_too(master(0, HOLDS_DOWN, 1, at))
            self.refused_at_first_too(master(0, HOLDS_DOWN, 1, 50, 64, at))
            self.refused_at_first_too(master(0, HOLDS_DOWN, 1, at, 64, 50))

    def test_400_numbers(self):
        rising = [number for channel in range(1, 201) for number in (channel, 50)]
        self.assertEqual(len(rising), 400)
        self.refused_at_first_too(master(0, HOLDS_DOWN, *rising))
        self.refused_at_first_too(master(0, HOLDS_DOWN, *rising[:-1]))
        self.refused_at_first_too(master(0, HOLDS_DOWN, *([1, 50] * 200)))

    def test_a_refused_one_does_not_hold_down(self):
        for refused in (master(2, HOLDS_DOWN, 1), master(2, HOLDS_DOWN, 1, 101), master(2, 2, 1, 50)):
            self.assertEqual(answered(refused, flash(2, 1), solo(2, 1)), [[-1], [0], [0]])

    def test_a_refused_one_holds_down_still(self):
        self.assertEqual(answered(master(2, HOLDS_DOWN), master(2, ADDS, 1), flash(2, 0)), [[0], [-1], [-3]])


class Fader(Case):
    def test_ordinary_and_edges(self):
        for number in (0, 1, 3, 6, 7):
            for at in (0, 1, 50, 99, 100):
                self.changed(fader(number, at), "masters", number, "fader", at)

    def test_no_such_master_or_level(self):
        for number in NO_MASTERS:
            for at in (0, 50, 100, 101):
                self.refused_at_first_too(fader(number, at))
        for at in NO_LEVELS:
            for number in (0, 3, 7):
                self.refused_at_first_too(fader(number, at))


class Keys(Case):
    """flash and solo, which have the same refusals."""

    kinds = ((flash, "flashed"), (solo, "soloed"))

    def test_on_and_off(self):
        for call, name in self.kinds:
            for number in (0, 1, 2, 4, 5, 6, 7):
                for on in (0, 1):
                    self.changed(call(number, on), "masters", number, name, on)

    def test_on_then_off_and_twice_on(self):
        for call, name in self.kinds:
            for keys in ((1, 0), (1, 1), (0, 1), (1, 0, 1)):
                board = board_after(*[call(4, on) for on in keys])
                self.assertEqual(vars(board.masters[4])[name], keys[-1])

    def test_each_by_itself(self):
        one = board_after(flash(4, 1)).masters[4]
        self.assertEqual((one.flashed, one.soloed), (1, 0))
        one = board_after(solo(4, 1)).masters[4]
        self.assertEqual((one.flashed, one.soloed), (0, 1))

    def test_several_may_be_on(self):
        board = board_after(*[solo(number, 1) for number in (1, 2, 5)])
        self.assertEqual([one.soloed for one in board.masters], [0, 1, 1, 0, 0, 1, 0, 0])

    def test_one_that_holds_down(self):
        for call, name in self.kinds:
            for on in (0, 1):
                self.refused(call(3, on), -3)

    def test_no_such_on(self):
        for call, name in self.kinds:
            for on in NO_CHOICES:
                for number in (0, 7):
                    self.refused_at_first_too(call(number, on))

    def test_no_such_on_comes_ahead_of_holding_down(self):
        for call, name in self.kinds:
            for on in NO_CHOICES:
                self.refused(call(3, on), -1)

    def test_no_such_master(self):
        for call, name in self.kinds:
            for number in NO_MASTERS:
                for on in (0, 1, 2):
                    self.refused_at_first_too(call(number, on))


class Grand(Case):
    def test_ordinary_and_edges(self):
        for at in (0, 1, 50, 99, 100):
            self.changed(grand(at), "grand", at)

    def test_no_such_level(self):
        for at in NO_LEVELS:
            self.refused_at_first_too(grand(at))


class Black(Case):
    def test_on_and_off(self):
        for on in (0, 1):
            self.changed(black(on), "black", on)

    def test_the_last_counts(self):
        for keys in ((1, 0), (0, 1), (1, 1), (0, 0), (1, 0, 1)):
            self.assertEqual(board_after(*[black(on) for on in keys]).black, keys[-1])

    def test_no_such_on(self):
        for on in NO_CHOICES:
            self.refused_at_first_too(black(on))
            self.assertEqual(answered(play(1, 50), black(1), black(on), level(1))[2:], [[-1], [0, 1, 0]])
            self.assertEqual(answered(play(1, 50), black(0), black(on), level(1))[2:], [[-1], [50, 1, 50]])


class Park(Case):
    def test_ordinary_and_edges(self):
        for channel in (1, 2, 10, 33, 63, 64):
            for at in (0, 1, 50, 99, 100):
                self.changed(park(channel, at), "parked", channel, at)

    def test_every_channel_at_once(self):
        calls = [park(channel, 100 - channel) for channel in CHANNELS]
        self.assertEqual(answered(*calls), [[0]] * 64)
        self.assertEqual(board_after(*calls).parked, {channel: 100 - channel for channel in CHANNELS})

    def test_parked_anew(self):
        for places in ((90, 10), (10, 90), (90, 0), (0, 0)):
            calls = [park(7, at) for at in places]
            self.assertEqual(answered(*calls, level(7)), [[0], [0], [places[1], 1, places[1]]])

    def test_no_such_channel_or_level(self):
        for channel in NO_CHANNELS:
            for at in (0, 50, 100, 101, GREATEST):
                self.refused_at_first_too(park(channel, at))
        for at in NO_LEVELS:
            for channel in (1, 10, 64):
                self.refused_at_first_too(park(channel, at))


class Free(Case):
    def test_a_parked_one(self):
        for channel in (1, 10, 64):
            for at in (0, 50, 100):
                calls = [park(2, 5), park(channel, at), free(channel)]
                self.assertEqual(answered(*calls), [[0], [0], [0]])
                self.assertEqual(board_after(*calls).parked, {2: 5})
                self.assertEqual(state_after(*calls), state_after(park(2, 5)))

    def test_just_that_one(self):
        expected = state_after(*BUSY)
        self.assertEqual(expected["parked"], {10: 61, 64: 62})
        expected["parked"] = {64: 62}
        self.assertEqual(state_after(*BUSY, free(10)), expected)

    def test_one_that_is_not_parked(self):
        for channel in (1, 9, 11, 63):
            self.refused(free(channel), -3)
        for channel in CHANNELS:
            self.assertEqual(last_answer(free(channel)), [-3])

    def test_twice(self):
        self.assertEqual(answered(park(1, 0), free(1), free(1), park(1, 3), free(1)), [[0], [0], [-3], [0], [0]])
        self.assertEqual(answered(park(1, 4), park(1, 5), free(1), free(1)), [[0], [0], [0], [-3]])

    def test_no_such_channel(self):
        for channel in NO_CHANNELS:
            self.refused_at_first_too(free(channel))
            parked = [park(one, 50) for one in CHANNELS]
            self.assertEqual(last_answer(*parked, free(channel)), [-1])

    def test_a_refused_park_does_not_park(self):
        self.assertEqual(answered(park(1, 101), free(1)), [[-1], [-3]])


if __name__ == "__main__":
    unittest.main()
