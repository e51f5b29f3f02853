"""Drawn cases, and the longest there are, held against the document's words told in another way."""

import random
import unittest
from fractions import Fraction
from math import floor

from stagemasters.board import answers
from support import (
    ADDS, CHANNELS, GREATEST, HOLDS_DOWN, MASTERS, black, drawn_level, drawn_levels, drawn_patch, drawn_settings,
    fader, flash, free, grand, joined, level, line, master, outs, park, parted, patch, play, solo, why,
)
from test_outs import gives
from test_patch import expected as expected_of_patch


def rounded(quotient):
    return floor(quotient + Fraction(1, 2))


class Desk:
    """The board in fractions: all masters' levels in full rows, each answer reckoned anew from the words."""

    def __init__(self):
        self.dimmers = []
        self.played = dict.fromkeys(CHANNELS, 0)
        self.kinds = dict.fromkeys(MASTERS, ADDS)
        self.looks = {number: dict.fromkeys(CHANNELS, 0) for number in MASTERS}
        self.faders = dict.fromkeys(MASTERS, 0)
        self.flashed = set()
        self.soloed = set()
        self.grand = 100
        self.is_black = False
        self.parked = {}

    def answer(self, call):
        names = "patch play master fader flash solo grand black park free level outs why".split()
        told = getattr(self, "do_" + names[call[0]])(*call[1:])
        return [told] if isinstance(told, int) else told

    def do_patch(self, length, *text):
        if length > 8192:
            return -2
        told = expected_of_patch(bytes(text))
        if told[0] >= 0:
            self.dimmers = [row.split() for row in bytes(text).decode().splitlines()]
        return told

    def do_play(self, channel, at):
        if channel not in CHANNELS or at > 100:
            return -1
        self.played[channel] = at
        return 0

    def do_master(self, number, kind, length, *levels):
        channels = levels[0::2]
        fits = number < 8 and kind < 2 and length % 2 == 0 and all(at <= 100 for at in levels[1::2])
        if not fits or any(one not in CHANNELS for one in channels) or list(channels) != sorted(set(channels)):
            return -1
        self.kinds[number] = kind
        self.looks[number] = {**dict.fromkeys(CHANNELS, 0), **dict(zip(channels, levels[1::2]))}
        self.faders[number] = 0
        self.flashed.discard(number)
        self.soloed.discard(number)
        return 0

    def do_fader(self, number, at):
        if number > 7 or at > 100:
            return -1
        self.faders[number] = at
        return 0

    def put_key(self, keys, number, on):
        if number > 7 or on > 1:
            return -1
        if self.kinds[number] == HOLDS_DOWN:
            return -3
        if on:
            keys.add(number)
        else:
            keys.discard(number)
        return 0

    def do_flash(self, number, on):
        return self.put_key(self.flashed, number, on)

    def do_solo(self, number, on):
        return self.put_key(self.soloed, number, on)

    def do_grand(self, at):
        if at > 100:
            return -1
        self.grand = at
        return 0

    def do_black(self, on):
        if on > 1:
            return -1
        self.is_black = on == 1
        return 0

    def do_park(self, channel, at):
        if channel not in CHANNELS or at > 100:
            return -1
        self.parked[channel] = at
        return 0

    def do_free(self, channel):
        if channel not in CHANNELS:
            return -1
        return -3 if self.parked.pop(channel, None) is None else 0

    def wants(self, channel):
        """What each that counts gives, by the number that why tells of it."""
        giving = {} if self.soloed else {1: Fraction(self.played[channel])}
        for number in self.soloed or [one for one in MASTERS if self.kinds[one] == ADDS]:
            share = 1 if number in self.flashed else Fraction(self.faders[number], 100)
            giving[number + 2] = self.looks[number][channel] * share
        return giving

    def lefts(self, channel):
        return [
            1 - Fraction(self.looks[number][channel], 100) * (1 - Fraction(self.faders[number], 100))
            for number in MASTERS if self.kinds[number] == HOLDS_DOWN
        ]

    def level_of(self, channel):
        if channel in self.parked:
            return Fraction(self.parked[channel])
        if self.is_black:
            return Fraction(0)
        quotient = max(self.wants(channel).values()) * Fraction(self.grand, 100)
        for left in self.lefts(channel):
            quotient *= left
        return quotient

    def do_level(self, channel):
        if channel not in CHANNELS:
            return -1
        quotient = self.level_of(channel)
        return [quotient.numerator, quotient.denominator, rounded(quotient)]

    def do_outs(self):
        return [len(self.dimmers)] + [
            gives(curve, int(limit), rounded(self.level_of(int(channel))))
            for number, channel, curve, limit, load, phase in self.dimmers
        ]

    def do_why(self, channel):
        if channel not in CHANNELS:
            return -1
        giving = self.wants(channel)
        greatest = max(giving.values())
        who = min(one for one, given in giving.items() if given == greatest) if greatest else 0
        return [10 if channel in self.parked else who, sum(left < 1 for left in self.lefts(channel))]


def drawn_bad(chance, good):
    """Mostly the good number, now and then one at or past an edge."""
    return good if chance.random() < 0.93 else chance.choice((0, 1, 2, 7, 8, 64, 65, 100, 101, GREATEST))


def drawn_call(chance, patches=True):
    """Any call, now and then a wrong one; few channels and masters, so that the calls meet, and few that darken all."""
    channel = drawn_bad(chance, chance.choice((1, 2, 64)))
    number = drawn_bad(chance, chance.choice((0, 1, 3, 7)))
    at = drawn_bad(chance, drawn_level(chance))
    on = drawn_bad(chance, chance.choice((0, 1)))
    seldom_on = drawn_bad(chance, chance.choice((0, 0, 0, 0, 1)))
    looks = [drawn_bad(chance, one) for one in (1, drawn_level(chance), 2, drawn_level(chance), 64, 100)]
    text = "".join(line(one, chance.choice((1, 2, 64)), limit=drawn_bad(chance, 50)) for one in (1, 2))
    looked = master(number, on, *looks[:chance.choice((2, 3, 4, 4, 6, 6))])
    return chance.choice((
        patch(text) if patches else outs(), play(channel, at), looked, looked, looked, fader(number, at),
        fader(number, at), fader(number, at), flash(number, on), flash(number, on), solo(number, seldom_on),
        grand(100 if on == 1 else at), black(seldom_on), park(channel, at), free(channel), free(channel),
        level(channel), level(channel), outs(), why(channel), why(channel),
    ))


def size(calls):
    """How many calls times (how many numbers and 200): the counts ahead of rows don't count."""
    rows = sum(call[0] in (0, 2) for call in calls)
    return len(calls) * (len(joined(calls)) - rows + 200)


class Case(unittest.TestCase):
    def check(self, calls):
        """The case is one that the interface lets be, and is answered as the desk answers it."""
        handed = joined(calls)
        self.assertLessEqual(len(calls), 400)
        self.assertLessEqual(len(handed), 30000)
        self.assertLessEqual(size(calls), 1000000)
        desk = Desk()
        told = parted(answers(handed))
        self.assertEqual(len(told), len(calls))
        for place, call in enumerate(calls):
            self.assertEqual(told[place], desk.answer(call), (place, call[:20]))
        return told


class Drawn(Case):
    def test_short_cases(self):
        for seed in range(300):
            chance = random.Random(seed)
            start = [play(channel, drawn_level(chance)) for channel in (1, 2, 64)]
            for number in (0, 1, 3, 7):
                start += [master(number, ADDS, *drawn_levels(chance)), fader(number, drawn_level(chance))]
            self.check(start + [drawn_call(chance) for count in range(chance.randint(1, 40))])

    def test_one_call_alone(self):
        for seed in range(300):
            self.check([drawn_call(random.Random(seed))])

    def test_every_answer_comes_up(self):
        told = set()
        for seed in range(100):
            chance = random.Random(seed)
            calls = [drawn_call(chance) for count in range(60)]
            told |= {(call[0], answer[0]) for call, answer in zip(calls, self.check(calls))}
        refusals = [(0, -6), (1, -1), (2, -1), (3, -1), (4, -1), (4, -3), (5, -1), (5, -3), (6, -1), (7, -1), (8, -1)]
        refusals += [(9, -1), (9, -3), (10, -1), (12, -1)]
        whys = [(12, who) for who in (1, 2, 3, 5, 9, 10)]
        self.assertEqual(set(refusals + whys + [(call, 0) for call in range(1, 13)]) - told, set())

    def test_whole_boards(self):
        asking = [level(channel) for channel in CHANNELS] + [outs()] + [why(channel) for channel in CHANNELS]
        for seed in range(20):
            settings = [call for call in drawn_settings(random.Random(seed)) if call[0] != 0]
            self.check(settings + asking)
            few = drawn_patch(random.Random(seed), 20)
            self.check([few] + settings + asking)


class Long(Case):
    def test_400_calls(self):
        for seed in range(20):
            chance = random.Random(seed)
            self.check([drawn_call(chance, patches=False) for count in range(400)])

    def test_400_calls_as_long_as_may_be(self):
        """400 calls of 2300 numbers in all."""
        chance = random.Random(7)
        text = "".join(line(number, number % 64 + 1, "soft", number, 0, 1) for number in range(1, 70))
        calls = [patch(text)] + [master(number, number % 2, 1, 50, 2, 60) for number in MASTERS]
        calls += [drawn_call(chance, patches=False) for count in range(300)]
        calls += [outs() for count in range(400 - len(calls))]
        rest = 1000000 // 400 - 200 - (size(calls) // 400 - 200)
        self.assertGreaterEqual(rest, 0)
        calls[0] = patch(text + " " * rest)
        self.assertEqual(size(calls), 1000000)
        self.check(calls)
        calls[0] = patch(text)
        self.check(calls)

    def test_30000_numbers(self):
        """33 calls, the most that may have so many numbers: full patches, full masters, outs."""
        chance = random.Random(8)
        full = "".join(line(number, 64, "linear", 100, 5000, 3) for number in range(1, 129))
        calls = [patch(full[:-1]), patch("1" * 8192)]
        calls += [master(number, ADDS, *[one for channel in CHANNELS for one in (channel, 100)]) for number in (0, 1)]
        calls += [master(2, HOLDS_DOWN, *[one for channel in range(1, 201) for one in (channel, 100)]), fader(0, 77)]
        calls += [call for count in range(4) for call in (drawn_patch(chance), outs())]
        calls += [master(number, chance.choice((0, 1)), *drawn_levels(chance)) for number in range(3, 8)]
        calls += [play(64, 90), patch(full), outs(), level(64), why(64)]
        calls += [outs() for count in range(32 - len(calls))]
        calls.append(patch("\n" * (30000 - len(joined(calls)) - 2)))
        self.assertEqual((len(calls), len(joined(calls))), (33, 30000))
        self.check(calls)

    def test_the_longest_text(self):
        self.check([patch("1 " * 14950), outs(), play(1, 50), level(1)])

    def test_many_patches(self):
        text = "".join(line(number, number % 64 + 1, "square") for number in range(1, 11))
        calls = [call for count in range(65) for call in (patch(text), play(count % 64 + 1, count), outs())][:66]
        self.check(calls)

    def test_outs_of_all_dimmers_over_and_over(self):
        chance = random.Random(9)
        text = "".join(line(number, number % 64 + 1, "soft", 100, 5000, 3) for number in range(1, 129))
        calls = [patch(text)]
        for count in range(59):
            calls += [play(chance.choice(CHANNELS), drawn_level(chance)), fader(0, count), outs(), grand(count), outs()]
        while size(calls) > 1000000:
            calls.pop()
        self.check(calls)


if __name__ == "__main__":
    unittest.main()
