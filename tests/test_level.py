"""level: a channel's level, as a quotient in lowest terms and rounded."""

import unittest
from fractions import Fraction
from math import gcd

from support import (
    ADDS, CHANNELS, GREATEST, HOLDS_DOWN, MASTERS, answered, black, fader, flash, free, grand, last_answer, level,
    master, park, patch, play, solo,
)


class Case(unittest.TestCase):
    def tells(self, expected, *calls, channel=1):
        """The channel's level is upper, lower, rounded."""
        self.assertEqual(last_answer(*calls, level(channel)), list(expected), calls)

    def is_at(self, quotient, *calls, channel=1):
        """The channel's level is this quotient, and rounded as a half is rounded up."""
        told = last_answer(*calls, level(channel))
        self.assertEqual(told[:2], [quotient.numerator, quotient.denominator], calls)
        self.assertEqual(told[2:], [(quotient + Fraction(1, 2)).__floor__()], calls)


class Plain(Case):
    def test_at_first(self):
        for channel in CHANNELS:
            self.tells((0, 1, 0), channel=channel)

    def test_what_is_played(self):
        for channel in (1, 2, 33, 63, 64):
            for at in range(101):
                self.tells((at, 1, at), play(channel, at), channel=channel)

    def test_of_that_channel_alone(self):
        told = answered(play(5, 70), *[level(channel) for channel in CHANNELS])[1:]
        self.assertEqual(told, [[70, 1, 70] if channel == 5 else [0, 1, 0] for channel in CHANNELS])

    def test_no_such_channel(self):
        for channel in (0, 65, 66, 128, GREATEST):
            self.tells((-1,), channel=channel)
            self.tells((-1,), play(1, 50), play(64, 50), park(2, 5), black(1), channel=channel)

    def test_asked_twice(self):
        self.assertEqual(answered(play(1, 5), level(1), level(1)), [[0], [5, 1, 5], [5, 1, 5]])

    def test_a_patch_leaves_it(self):
        self.tells((5, 1, 5), play(1, 5), patch("1 1 square 1 0 1\n"))


class Grand(Case):
    def test_every_level_of_it(self):
        for at in range(101):
            for played in (0, 1, 33, 50, 99, 100):
                self.is_at(Fraction(played * at, 100), play(1, played), grand(at))

    def test_written_out(self):
        self.tells((25, 1, 25), play(1, 50), grand(50))
        self.tells((0, 1, 0), play(1, 100), grand(0))
        self.tells((1, 100, 0), play(1, 1), grand(1))
        self.tells((9801, 100, 98), play(1, 99), grand(99))

    def test_a_half_is_rounded_up(self):
        self.tells((1, 2, 1), play(1, 1), grand(50))
        self.tells((1, 2, 1), play(1, 50), grand(1))
        self.tells((51, 2, 26), play(1, 51), grand(50))
        self.tells((99, 2, 50), play(1, 99), grand(50))
        self.tells((3, 2, 2), play(1, 3), grand(50))
        self.tells((5, 2, 3), play(1, 5), grand(50))

    def test_beside_a_half(self):
        self.tells((49, 100, 0), play(1, 49), grand(1))
        self.tells((51, 100, 1), play(1, 51), grand(1))
        self.tells((2499, 100, 25), play(1, 51), grand(49))

    def test_it_holds_masters_too(self):
        self.tells((20, 1, 20), master(3, ADDS, 1, 80), fader(3, 50), grand(50))
        self.tells((40, 1, 40), master(3, ADDS, 1, 80), flash(3, 1), grand(50))


class Adding(Case):
    def test_every_fader(self):
        for at in range(101):
            for number in (0, 7):
                self.is_at(Fraction(80 * at, 100), master(number, ADDS, 1, 80), fader(number, at))

    def test_lowest_terms(self):
        self.tells((132, 5, 26), master(0, ADDS, 1, 80), fader(0, 33))
        self.tells((81, 100, 1), master(0, ADDS, 1, 9), fader(0, 9))
        self.tells((13, 2, 7), master(0, ADDS, 1, 13), fader(0, 50))

    def test_flashed_gives_all_of_it(self):
        for at in (0, 1, 50, 100):
            self.tells((80, 1, 80), master(0, ADDS, 1, 80), fader(0, at), flash(0, 1))
        self.tells((40, 1, 40), master(0, ADDS, 1, 80), fader(0, 50), flash(0, 1), flash(0, 0))

    def test_without_a_level_of_the_channel(self):
        self.tells((0, 1, 0), master(0, ADDS, 2, 80), fader(0, 100))
        self.tells((0, 1, 0), master(0, ADDS, 2, 80), flash(0, 1))
        self.tells((0, 1, 0), fader(0, 100), flash(1, 1))
        self.tells((7, 1, 7), master(0, ADDS, 2, 80), flash(0, 1), play(1, 7))

    def test_the_brightest(self):
        looks = [master(0, ADDS, 1, 80), master(1, ADDS, 1, 60), master(7, ADDS, 1, 90)]
        self.tells((60, 1, 60), *looks, fader(0, 50), fader(1, 100), fader(7, 60))
        self.tells((54, 1, 54), *looks, fader(0, 50), fader(1, 50), fader(7, 60))
        self.tells((61, 1, 61), *looks, fader(0, 50), fader(1, 100), fader(7, 60), play(1, 61))
        self.tells((60, 1, 60), *looks, fader(0, 50), fader(1, 100), fader(7, 60), play(1, 60))
        self.tells((90, 1, 90), *looks, fader(0, 50), fader(1, 100), flash(7, 1), play(1, 61))

    def test_it_does_not_add_up(self):
        looks = [call for number in MASTERS for call in (master(number, ADDS, 1, 100), fader(number, 100))]
        self.tells((100, 1, 100), *looks, play(1, 100))


class HoldingDown(Case):
    def test_every_fader(self):
        for at in range(101):
            for held in (0, 1, 50, 99, 100):
                left = 1 - Fraction(held, 100) * (1 - Fraction(at, 100))
                for number in (0, 7):
                    self.is_at(77 * left, play(1, 77), master(number, HOLDS_DOWN, 1, held), fader(number, at))

    def test_written_out(self):
        self.tells((0, 1, 0), play(1, 100), master(2, HOLDS_DOWN, 1, 100))
        self.tells((40, 1, 40), play(1, 100), master(2, HOLDS_DOWN, 1, 60))
        self.tells((70, 1, 70), play(1, 100), master(2, HOLDS_DOWN, 1, 60), fader(2, 50))
        self.tells((100, 1, 100), play(1, 100), master(2, HOLDS_DOWN, 1, 60), fader(2, 100))
        self.tells((1, 10000, 0), play(1, 1), master(2, HOLDS_DOWN, 1, 99), grand(1))

    def test_without_a_level_of_the_channel(self):
        for at in (0, 50, 100):
            self.tells((77, 1, 77), play(1, 77), master(2, HOLDS_DOWN, 2, 100), fader(2, at))
            self.tells((77, 1, 77), play(1, 77), master(2, HOLDS_DOWN), fader(2, at))

    def test_it_adds_nothing(self):
        self.tells((0, 1, 0), master(2, HOLDS_DOWN, 1, 100), fader(2, 100))
        self.tells((7, 1, 7), play(1, 7), master(2, HOLDS_DOWN, 1, 100), fader(2, 100))

    def test_several(self):
        two = [play(1, 100), master(1, HOLDS_DOWN, 1, 50), master(4, HOLDS_DOWN, 1, 50)]
        self.tells((25, 1, 25), *two)
        self.tells((75, 2, 38), *two, fader(4, 50))
        self.tells((225, 4, 56), *two, fader(1, 50), fader(4, 50))
        self.tells((50, 1, 50), *two, fader(1, 100))
        self.tells((100, 1, 100), *two, fader(1, 100), fader(4, 100))
        self.tells((25, 1, 25), *two, master(0, HOLDS_DOWN, 2, 100))
        self.tells((0, 1, 0), *two, master(0, HOLDS_DOWN, 1, 100))

    def test_all_eight(self):
        calls = [play(1, 99), grand(97)]
        quotient = Fraction(99 * 97, 100)
        for number in MASTERS:
            calls += [master(number, HOLDS_DOWN, 1, 31 + number), fader(number, 3 * number)]
            quotient = quotient * (10000 - (31 + number) * (100 - 3 * number)) / 10000
        self.is_at(quotient, *calls)

    def test_so_small_that_it_is_no_whole_number(self):
        calls = [play(1, 1), grand(1)] + [master(number, HOLDS_DOWN, 1, 99) for number in MASTERS]
        self.tells((1, 10 ** 18, 0), *calls)
        calls += [fader(number, 1) for number in MASTERS]
        self.is_at(Fraction(199 ** 8, 10 ** 34), *calls)

    def test_it_holds_what_masters_add(self):
        calls = [master(0, ADDS, 1, 80), fader(0, 50), master(1, HOLDS_DOWN, 1, 50)]
        self.tells((20, 1, 20), *calls)
        self.tells((40, 1, 40), *calls, flash(0, 1))
        self.tells((30, 1, 30), *calls, fader(1, 50))


class Soloed(Case):
    looks = (
        play(1, 95), master(0, ADDS, 1, 80), fader(0, 50), master(1, ADDS, 1, 60), fader(1, 50), master(2, ADDS, 1, 90),
        fader(2, 100),
    )

    def test_one(self):
        self.tells((40, 1, 40), *self.looks, solo(0, 1))
        self.tells((30, 1, 30), *self.looks, solo(1, 1))
        self.tells((90, 1, 90), *self.looks, solo(2, 1))

    def test_several(self):
        self.tells((40, 1, 40), *self.looks, solo(0, 1), solo(1, 1))
        self.tells((40, 1, 40), *self.looks, solo(1, 1), solo(0, 1))
        self.tells((90, 1, 90), *self.looks, solo(0, 1), solo(1, 1), solo(2, 1))

    def test_one_that_gives_nothing(self):
        self.tells((0, 1, 0), *self.looks, solo(7, 1))
        self.tells((0, 1, 0), *self.looks, fader(0, 0), solo(0, 1))
        self.tells((0, 1, 0), *self.looks, solo(0, 1), channel=2)
        self.tells((40, 1, 40), *self.looks, solo(0, 1), solo(7, 1))

    def test_no_more(self):
        self.tells((95, 1, 95), *self.looks, solo(0, 1), solo(0, 0))
        self.tells((30, 1, 30), *self.looks, solo(0, 1), solo(1, 1), solo(0, 0))

    def test_flashed(self):
        self.tells((80, 1, 80), *self.looks, solo(0, 1), flash(0, 1))
        self.tells((40, 1, 40), *self.looks, solo(0, 1), flash(1, 1), flash(2, 1))

    def test_what_holds_down_holds_still(self):
        held = [master(3, HOLDS_DOWN, 1, 50)]
        self.tells((20, 1, 20), *self.looks, *held, solo(0, 1))
        self.tells((10, 1, 10), *self.looks, *held, solo(0, 1), grand(50))

    def test_parked_and_black_come_first(self):
        self.tells((3, 1, 3), *self.looks, solo(0, 1), park(1, 3))
        self.tells((0, 1, 0), *self.looks, solo(0, 1), black(1))


class SetAnew(Case):
    def test_its_fader_is_at_0(self):
        self.tells((0, 1, 0), master(0, ADDS, 1, 80), fader(0, 50), master(0, ADDS, 1, 80))
        self.tells((0, 1, 0), fader(0, 50), master(0, ADDS, 1, 80))
        self.tells((20, 1, 20), play(1, 100), fader(0, 50), master(0, HOLDS_DOWN, 1, 80))

    def test_it_is_not_flashed(self):
        self.tells((0, 1, 0), master(0, ADDS, 1, 80), flash(0, 1), master(0, ADDS, 1, 80))

    def test_it_is_not_soloed(self):
        self.tells((50, 1, 50), play(1, 50), solo(0, 1), master(0, ADDS, 1, 80))
        self.tells((25, 1, 25), play(1, 50), solo(0, 1), master(0, HOLDS_DOWN, 1, 50))
        self.tells((0, 1, 0), play(1, 50), solo(0, 1), solo(1, 1), master(0, ADDS, 1, 80))

    def test_from_holding_to_adding_and_back(self):
        held = [play(1, 50), master(0, HOLDS_DOWN, 1, 80)]
        self.tells((10, 1, 10), *held)
        self.tells((50, 1, 50), *held, master(0, ADDS, 1, 80))
        self.tells((80, 1, 80), *held, master(0, ADDS, 1, 80), fader(0, 100))
        self.tells((10, 1, 10), *held, master(0, ADDS, 1, 80), fader(0, 100), master(0, HOLDS_DOWN, 1, 80))

    def test_its_channels_of_before_are_gone(self):
        self.tells((0, 1, 0), master(0, ADDS, 1, 80), master(0, ADDS, 2, 80), fader(0, 100))
        self.tells((50, 1, 50), play(1, 50), master(0, HOLDS_DOWN, 1, 80), master(0, HOLDS_DOWN, 2, 80))


class Black(Case):
    def test_before_all_else(self):
        bright = [play(1, 100), master(0, ADDS, 1, 100), fader(0, 100), flash(0, 1), solo(0, 1)]
        self.tells((0, 1, 0), *bright, black(1))
        self.tells((0, 1, 0), black(1), *bright)
        for channel in CHANNELS:
            self.tells((0, 1, 0), play(channel, 100), black(1), channel=channel)

    def test_no_more(self):
        self.tells((50, 1, 50), play(1, 50), black(1), black(0))
        self.tells((70, 1, 70), play(1, 50), black(1), play(1, 70), black(0))


class Parked(Case):
    dark = (black(1), grand(0), master(0, HOLDS_DOWN, 1, 100), solo(1, 1))

    def test_at_every_level(self):
        for at in range(101):
            self.tells((at, 1, at), park(1, at))
            self.tells((at, 1, at), play(1, 50), park(1, at))
            self.tells((at, 1, at), *self.dark, park(1, at))

    def test_before_each_that_makes_it_dark(self):
        for call in self.dark:
            self.tells((40, 1, 40), play(1, 100), park(1, 40), call)

    def test_at_0_before_each_that_makes_it_bright(self):
        self.tells((0, 1, 0), park(1, 0), play(1, 100), master(2, ADDS, 1, 100), flash(2, 1), solo(2, 1))

    def test_the_channels_beside_it(self):
        calls = [play(1, 10), play(2, 20), play(3, 30), park(2, 99)]
        self.assertEqual(
            answered(*calls, level(1), level(2), level(3))[4:], [[10, 1, 10], [99, 1, 99], [30, 1, 30]]
        )
        self.assertEqual(
            answered(*calls, black(1), level(1), level(2), level(3))[5:], [[0, 1, 0], [99, 1, 99], [0, 1, 0]]
        )

    def test_free_again(self):
        self.tells((50, 1, 50), play(1, 50), park(1, 3), free(1))
        self.tells((70, 1, 70), play(1, 50), park(1, 3), play(1, 70), free(1))
        self.tells((0, 1, 0), play(1, 50), park(1, 3), black(1), free(1))


class LowestTerms(Case):
    def test_over_many(self):
        for held in range(0, 101, 7):
            for at in range(0, 101, 3):
                upper, lower, rounded = last_answer(
                    play(1, 84), grand(75), master(0, HOLDS_DOWN, 1, held), fader(0, at), level(1)
                )
                self.assertEqual(gcd(upper, lower), 1)
                self.assertGreaterEqual(lower, 1)
                self.assertEqual(Fraction(upper, lower), Fraction(63) * (10000 - held * (100 - at)) / 10000)
                self.assertIs(type(rounded), int)


if __name__ == "__main__":
    unittest.main()
