"""The document's promises 1 to 5 over drawn boards."""

import random
import unittest
from fractions import Fraction

from support import (
    ADDS, CHANNELS, GREATEST, HOLDS_DOWN, MASTERS, answered, asked_after, black, drawn_level, drawn_levels,
    drawn_settings, fader, flash, free, grand, level, line, master, outs, park, patch, play, solo, state_after, why,
)

FEW = (1, 2, 63, 64)
ASKING = [level(channel) for channel in FEW] + [why(channel) for channel in FEW] + [outs()]
REFUSED = (
    patch("x"), patch(line(2) + line(1)), patch("1" * 8193), play(0, 50), play(65, 50), play(1, 101), play(GREATEST, 0),
    master(8, ADDS, 1, 50), master(0, 2, 1, 50), master(0, ADDS, 1), master(0, HOLDS_DOWN, 2, 50, 1, 50),
    master(1, HOLDS_DOWN, 1, 101), fader(8, 50), fader(0, 101), flash(8, 1), flash(0, 2), solo(8, 1), solo(0, 2),
    grand(101), grand(GREATEST), black(2), black(GREATEST), park(0, 50), park(65, 50), park(1, 101), free(0), free(65),
    level(0), level(65), level(GREATEST), why(0), why(65), why(GREATEST),
)


def drawn_boards(count, first=0):
    """Calls that set a board each, with what draws them."""
    for seed in range(first, first + count):
        chance = random.Random(seed)
        yield chance, drawn_settings(chance, FEW)


def levels_after(*calls):
    """The level of each of the few channels: the quotient, the rounded one."""
    told = answered(*calls, *[level(channel) for channel in FEW])[len(calls):]
    return [(Fraction(upper, lower), near) for upper, lower, near in told]


class Brightest(unittest.TestCase):
    """Promise 1: as bright as the brightest that wants it, less what's held; never above 100."""

    def test_never_above_100(self):
        for chance, calls in drawn_boards(100):
            for quotient, near in levels_after(*calls):
                self.assertTrue(0 <= quotient <= 100 and 0 <= near <= 100, calls)

    def test_not_above_100_with_all_at_full(self):
        full = [number for channel in CHANNELS for number in (channel, 100)]
        calls = [play(channel, 100) for channel in FEW]
        for number in MASTERS:
            calls += [master(number, ADDS, *full), fader(number, 100), flash(number, 1), solo(number, number % 2)]
        self.assertEqual(levels_after(*calls), [(100, 100)] * 4)
        self.assertEqual(levels_after(*calls, master(0, HOLDS_DOWN, *full), fader(0, 100)), [(100, 100)] * 4)

    def test_the_brightest_alone_makes_it(self):
        """With what why names and nothing else that wants it, the level is the same."""
        for chance, calls in drawn_boards(100):
            for channel in FEW:
                before, who = answered(*calls, level(channel), why(channel))[-2:]
                alone = [call for call in calls if who[0] == 1 or call[0] != 1]
                for number in MASTERS:
                    kind = [call[2] for call in calls if call[:2] == [2, number]][0]
                    if kind == ADDS and who[0] != number + 2:
                        alone.append(master(number, ADDS))
                self.assertEqual(answered(*alone, level(channel))[-1], before, (calls, channel))


class FadersUp(unittest.TestCase):
    """Promise 2: a fader up, the grand master up, never make a channel darker."""

    def never_darker(self, calls, moving):
        """Over the calls in moving, one after another, no level falls, nor what a dimmer gives."""
        asking = [level(channel) for channel in FEW] + [outs()]
        told = answered(*calls, *[call for move in moving for call in [move] + asking])[len(calls):]
        steps = [told[place + 1:place + 6] for place in range(0, len(told), 6)]
        self.assertEqual(len(steps), len(moving))
        for before, after in zip(steps, steps[1:]):
            for one, other in zip(before[:4], after[:4]):
                self.assertLessEqual(Fraction(one[0], one[1]), Fraction(other[0], other[1]))
                self.assertLessEqual(one[2], other[2])
            for one, other in zip(before[4], after[4]):
                self.assertLessEqual(one, other)

    def test_each_fader(self):
        for chance, calls in drawn_boards(15):
            for number in MASTERS:
                self.never_darker(calls, [fader(number, at) for at in range(0, 101, 4)])

    def test_the_grand_master(self):
        for chance, calls in drawn_boards(60):
            self.never_darker(calls, [grand(at) for at in range(101)])

    def test_holding_ones_and_adding_ones_brighten(self):
        for kind in (ADDS, HOLDS_DOWN):
            calls = [play(1, 0 if kind == ADDS else 100), master(0, kind, 1, 100)]
            told = answered(*calls, *[call for at in range(101) for call in (fader(0, at), level(1))])[3::2]
            self.assertEqual([near for upper, lower, near in told], list(range(101)))


class AnyOrder(unittest.TestCase):
    """Promise 3: in whatever order things are set, it's the same."""

    def shuffled(self, chance, calls):
        """The calls in another order, but that a master's own call stays ahead of its fader and keys."""
        keyed = sorted(range(len(calls)), key=lambda place: chance.random())
        ordered = [calls[place] for place in keyed]
        masters = [call for call in ordered if call[0] == 2]
        rest = [call for call in ordered if call[0] != 2]
        for call in masters:
            touching = [place for place, one in enumerate(rest) if one[0] in (3, 4, 5) and one[1] == call[1]]
            rest.insert(chance.randint(0, min(touching)), call)
        return rest

    def test_drawn_boards(self):
        for chance, calls in drawn_boards(40):
            expected = asked_after(*calls)
            state = state_after(*calls)
            for count in range(3):
                other = self.shuffled(chance, calls)
                self.assertEqual(sorted(other), sorted(calls))
                self.assertEqual(asked_after(*other), expected)
                self.assertEqual(state_after(*other), state)

    def test_by_whatever_way_it_came_there(self):
        for chance, calls in drawn_boards(20):
            astray = drawn_settings(random.Random(chance.random()), FEW)
            freed = [free(channel) for channel in CHANNELS]
            self.assertEqual(asked_after(*astray, *freed, *calls), asked_after(*calls))


class Parked(unittest.TestCase):
    """Promise 4, its first half: what's parked stays as it is."""

    def test_whatever_comes(self):
        for chance, calls in drawn_boards(60):
            channel = chance.choice(FEW)
            at = drawn_level(chance)
            others = [call for call in calls if call[0] != 8 or call[1] != channel]
            others += [master(chance.choice(MASTERS), chance.choice((0, 1)), *drawn_levels(chance)), black(1), black(0)]
            told = answered(park(channel, at), *[one for call in others for one in (call, level(channel))])
            self.assertEqual(told[2::2], [[at, 1, at]] * len(others))

    def test_the_dimmers_too(self):
        text = line(1, 2, "linear", 100)
        for chance, calls in drawn_boards(20):
            others = [call for call in calls if call[0] not in (0, 8)]
            told = answered(patch(text), park(2, 40), *[one for call in others for one in (call, outs())])
            self.assertEqual(told[3::2], [[1, 102]] * len(others))


class Soloed(unittest.TestCase):
    """Promise 4, its second half: all soloed masters count, and none but they."""

    def looks(self, chance):
        calls = [play(channel, drawn_level(chance)) for channel in FEW]
        gives = {}
        for number in MASTERS:
            levels = [drawn_level(chance) for channel in FEW]
            at = drawn_level(chance)
            on = int(chance.random() < 0.3)
            rows = [one for pair in zip(FEW, levels) for one in pair]
            calls += [master(number, ADDS, *rows), fader(number, at), flash(number, on)]
            gives[number] = [Fraction(one) if on else Fraction(one * at, 100) for one in levels]
        return calls, gives

    def test_all_of_them_and_none_but_they(self):
        for seed in range(60):
            chance = random.Random(seed)
            calls, gives = self.looks(chance)
            soloed = chance.sample(MASTERS, chance.randint(1, 8))
            told = levels_after(*calls, *[solo(number, 1) for number in soloed])
            expected = [max(gives[number][place] for number in soloed) for place in range(len(FEW))]
            self.assertEqual([quotient for quotient, near in told], expected)

    def test_what_is_not_soloed_may_change_as_it_likes(self):
        for seed in range(40):
            chance = random.Random(seed)
            calls, gives = self.looks(chance)
            number = chance.choice(MASTERS)
            before = asked_after(*calls, solo(number, 1))
            other = (number + chance.randint(1, 7)) % 8
            for call in (play(1, 100), fader(other, 100), flash(other, 1), master(other, ADDS, 1, 100)):
                self.assertEqual(asked_after(*calls, solo(number, 1), call), before)


class NothingChanged(unittest.TestCase):
    """Promise 5: what's refused, what only asks, changes nothing."""

    def test_refused(self):
        for chance, calls in drawn_boards(6):
            state = state_after(*calls)
            asked = asked_after(*calls)
            for call in REFUSED:
                told = answered(*calls, call)[-1]
                self.assertLess(told[0], 0, call)
                self.assertEqual(state_after(*calls, call), state, call)
                self.assertEqual(asked_after(*calls, call), asked, call)

    def test_refused_with_3(self):
        for kind_first in ([], [master(3, HOLDS_DOWN, 1, 50), fader(3, 40)]):
            calls = [play(1, 90), park(2, 5)] + kind_first
            refused = [free(1), free(64)] + ([flash(3, 1), flash(3, 0), solo(3, 1), solo(3, 0)] if kind_first else [])
            for call in refused:
                self.assertEqual(answered(*calls, call)[-1], [-3])
                self.assertEqual(state_after(*calls, call), state_after(*calls))
                self.assertEqual(asked_after(*calls, call), asked_after(*calls))

    def test_asked(self):
        for chance, calls in drawn_boards(20):
            state = state_after(*calls)
            for call in ASKING:
                self.assertEqual(state_after(*calls, call), state, call)
            twice = answered(*calls, *ASKING, *ASKING)[len(calls):]
            self.assertEqual(twice[:len(ASKING)], twice[len(ASKING):])

    def test_put_between_all_the_others(self):
        for chance, calls in drawn_boards(20):
            expected = answered(*calls, *ASKING)
            mixed = []
            kept = []
            for call in calls + ASKING:
                mixed += [chance.choice(REFUSED), chance.choice(ASKING)]
                kept.append(len(mixed))
                mixed.append(call)
            told = answered(*mixed)
            self.assertEqual([told[place] for place in kept], expected)


if __name__ == "__main__":
    unittest.main()
