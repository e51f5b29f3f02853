"""why: who makes a channel's level, and how many masters hold it down."""

import unittest

from support import (
    ADDS, CHANNELS, GREATEST, HOLDS_DOWN, MASTERS, black, fader, flash, free, grand, last_answer, master, park, play,
    solo, why,
)


class Case(unittest.TestCase):
    def tells(self, who, held, *calls, channel=1):
        self.assertEqual(last_answer(*calls, why(channel)), [who, held], calls)


class Who(Case):
    def test_nothing(self):
        for channel in CHANNELS:
            self.tells(0, 0, channel=channel)
        self.tells(0, 0, play(1, 0), master(0, ADDS, 1, 0), fader(0, 100), flash(0, 1))
        self.tells(0, 0, master(0, ADDS, 1, 100))
        self.tells(0, 0, play(2, 100), master(0, ADDS, 3, 100), fader(0, 100))

    def test_what_is_played(self):
        self.tells(1, 0, play(1, 1))
        self.tells(1, 0, play(64, 100), channel=64)
        self.tells(1, 0, play(1, 41), master(0, ADDS, 1, 80), fader(0, 50))

    def test_what_is_played_comes_ahead_of_a_master_that_gives_as_much(self):
        for number in MASTERS:
            self.tells(1, 0, play(1, 40), master(number, ADDS, 1, 80), fader(number, 50))
            self.tells(1, 0, play(1, 80), master(number, ADDS, 1, 80), flash(number, 1))

    def test_each_master(self):
        for number in MASTERS:
            look = master(number, ADDS, 1, 80)
            self.tells(number + 2, 0, look, fader(number, 1))
            self.tells(number + 2, 0, look, flash(number, 1))
            self.tells(number + 2, 0, look, fader(number, 50), play(1, 39))

    def test_by_a_part_of_a_level(self):
        self.tells(5, 0, play(1, 40), master(3, ADDS, 1, 79), fader(3, 51))
        self.tells(1, 0, play(1, 40), master(3, ADDS, 1, 57), fader(3, 70))
        looks = [master(2, ADDS, 1, 57), master(6, ADDS, 1, 58)]
        self.tells(4, 0, *looks, fader(2, 57), fader(6, 56))
        self.tells(8, 0, *looks, fader(2, 56), fader(6, 57))

    def test_the_first_of_several(self):
        looks = [call for number in (6, 4, 2) for call in (master(number, ADDS, 1, 60), fader(number, 50))]
        self.tells(4, 0, *looks)
        self.tells(4, 0, *looks, play(1, 29))
        self.tells(1, 0, *looks, play(1, 30))
        self.tells(6, 0, *looks, fader(4, 51))
        self.tells(6, 0, *looks, fader(4, 51), fader(6, 51))
        self.tells(4, 0, *looks, master(3, ADDS, 1, 30), flash(3, 1))
        self.tells(3, 0, *looks, master(1, ADDS, 1, 30), flash(1, 1))

    def test_one_that_holds_down_is_passed_over(self):
        self.tells(0, 0, master(0, HOLDS_DOWN, 1, 100), fader(0, 100))
        self.tells(3, 1, master(0, HOLDS_DOWN, 1, 100), fader(0, 99), master(1, ADDS, 1, 1), fader(1, 1))

    def test_soloed(self):
        looks = [
            play(1, 90), master(2, ADDS, 1, 80), fader(2, 50), master(5, ADDS, 1, 60), fader(5, 50),
            master(6, ADDS, 1, 80), fader(6, 50),
        ]
        self.tells(1, 0, *looks)
        self.tells(4, 0, *looks, solo(2, 1))
        self.tells(7, 0, *looks, solo(5, 1))
        self.tells(8, 0, *looks, solo(6, 1))
        self.tells(8, 0, *looks, solo(6, 1), solo(5, 1))
        self.tells(4, 0, *looks, solo(6, 1), solo(2, 1))
        self.tells(0, 0, *looks, solo(7, 1))
        self.tells(0, 0, *looks, solo(2, 1), channel=2)
        self.tells(1, 0, *looks, solo(2, 1), solo(2, 0))

    def test_what_is_held_or_dark_is_wanted_still(self):
        self.tells(1, 0, play(1, 50), grand(0))
        self.tells(1, 1, play(1, 50), master(0, HOLDS_DOWN, 1, 100))
        self.tells(3, 0, play(1, 50), master(1, ADDS, 1, 60), flash(1, 1), grand(0))

    def test_when_all_is_black(self):
        self.tells(0, 0, black(1))
        self.tells(1, 0, play(1, 50), black(1))
        self.tells(4, 1, master(2, ADDS, 1, 50), flash(2, 1), master(3, HOLDS_DOWN, 1, 1), black(1))
        self.tells(10, 0, park(1, 50), black(1))


class Parked(Case):
    def test_parked(self):
        for channel in (1, 2, 63, 64):
            for at in (0, 50, 100):
                self.tells(10, 0, park(channel, at), channel=channel)
                self.tells(10, 0, play(channel, 100), park(channel, at), channel=channel)
        self.tells(0, 0, park(2, 50))

    def test_beside_all_else(self):
        self.tells(10, 0, park(1, 0), master(0, ADDS, 1, 100), flash(0, 1), solo(0, 1), play(1, 100))

    def test_free_again(self):
        self.tells(0, 0, park(1, 50), free(1))
        self.tells(1, 0, play(1, 50), park(1, 50), free(1))

    def test_masters_that_hold_it_are_counted(self):
        held = [master(0, HOLDS_DOWN, 1, 100), master(7, HOLDS_DOWN, 1, 1), master(3, HOLDS_DOWN, 2, 100)]
        self.tells(10, 2, *held, park(1, 50))
        self.tells(10, 1, *held, park(1, 50), fader(0, 100))
        self.tells(10, 0, *held, park(3, 50), channel=3)


class Held(Case):
    def test_every_fader_and_some_levels(self):
        for at in range(101):
            for held in (0, 1, 50, 99, 100):
                counted = 1 if at < 100 and held > 0 else 0
                self.tells(0, counted, master(4, HOLDS_DOWN, 1, held), fader(4, at))
                self.tells(1, counted, play(1, 1), master(4, HOLDS_DOWN, 1, held), fader(4, at))

    def test_several(self):
        calls = []
        for count, number in enumerate(MASTERS, start=1):
            calls.append(master(number, HOLDS_DOWN, 1, 10))
            self.tells(0, count, *calls)
        for number in MASTERS:
            calls.append(fader(number, 99 if number % 2 else 100))
        self.tells(0, 4, *calls)

    def test_by_channel(self):
        calls = [master(1, HOLDS_DOWN, 1, 10, 2, 10), master(2, HOLDS_DOWN, 2, 10, 3, 0)]
        for channel, count in ((1, 1), (2, 2), (3, 0), (64, 0)):
            self.tells(0, count, *calls, channel=channel)

    def test_those_that_add_are_not_counted(self):
        self.tells(0, 0, master(1, ADDS, 1, 100))
        self.tells(3, 0, master(1, ADDS, 1, 100), fader(1, 1))
        self.tells(0, 0, master(1, HOLDS_DOWN, 1, 100), master(1, ADDS, 1, 100))

    def test_the_grand_master_and_black_are_not_counted(self):
        self.tells(1, 0, play(1, 50), grand(50), black(1))

    def test_a_solo_takes_none_away(self):
        self.tells(2, 1, master(0, ADDS, 1, 5), flash(0, 1), solo(0, 1), master(1, HOLDS_DOWN, 1, 5))


class Refused(Case):
    def test_no_such_channel(self):
        for channel in (0, 65, 66, 128, GREATEST):
            self.assertEqual(last_answer(why(channel)), [-1])
            self.assertEqual(last_answer(play(1, 50), park(64, 5), master(0, HOLDS_DOWN, 1, 5), why(channel)), [-1])


if __name__ == "__main__":
    unittest.main()
