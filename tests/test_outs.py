"""outs: how many dimmers there are, and what each gives."""

import unittest
from decimal import ROUND_FLOOR, ROUND_HALF_UP, Decimal

from support import (
    ADDS, CURVES, HOLDS_DOWN, answered, black, fader, grand, last_answer, level, line, master, outs, park, patch, play,
)


def curve_at(curve, at):
    """What a curve comes to, in decimal numbers, which hold these quotients exactly."""
    share = Decimal(at) / 100
    if curve == "switch":
        return 255 if share >= Decimal("0.5") else 0
    bent = {"linear": share, "square": share ** 2, "soft": share ** 2 * (3 - 2 * share)}[curve]
    return int((255 * bent).quantize(Decimal(1), rounding=ROUND_HALF_UP))


def gives(curve, limit, at):
    return int((curve_at(curve, at) * Decimal(limit) / 100).to_integral_value(rounding=ROUND_FLOOR))


class Count(unittest.TestCase):
    def test_no_dimmers(self):
        self.assertEqual(last_answer(outs()), [0])
        self.assertEqual(last_answer(play(1, 100), outs()), [0])
        self.assertEqual(last_answer(patch(line()), patch(""), outs()), [0])
        self.assertEqual(last_answer(patch("x"), outs()), [0])

    def test_dark_dimmers_are_told_too(self):
        self.assertEqual(last_answer(patch(line(1) + line(2)), outs()), [2, 0, 0])

    def test_a_refused_patch_leaves_them(self):
        self.assertEqual(last_answer(patch(line(1) + line(2)), play(1, 100), patch(line()[:-1]), outs()), [2, 255, 255])

    def test_all_there_are(self):
        text = "".join(line(number, 1 + number % 64) for number in range(1, 129))
        calls = [play(channel, channel) for channel in range(1, 65)]
        self.assertEqual(
            last_answer(patch(text), *calls, outs()),
            [128] + [gives("linear", 100, 1 + number % 64) for number in range(1, 129)],
        )


class Curves(unittest.TestCase):
    def test_all_levels_and_limits(self):
        for curve in CURVES:
            text = "".join(line(limit, 1, curve, limit) for limit in range(1, 101))
            calls = [call for at in range(101) for call in (play(1, at), outs())]
            told = answered(patch(text), *calls)[2::2]
            self.assertEqual(len(told), 101)
            for at, row in enumerate(told):
                self.assertEqual(row, [100] + [gives(curve, limit, at) for limit in range(1, 101)], (curve, at))

    def given(self, curve, *levels):
        return [last_answer(patch(line(curve=curve)), play(1, at), outs())[1] for at in levels]

    def test_linear_written_out(self):
        self.assertEqual(self.given("linear", 0, 1, 2, 99, 100), [0, 3, 5, 252, 255])
        # These are halves: 25.5, 76.5, 127.5, 178.5, 229.5.
        self.assertEqual(self.given("linear", 10, 30, 50, 70, 90), [26, 77, 128, 179, 230])

    def test_square_written_out(self):
        self.assertEqual(self.given("square", 0, 4, 5, 10, 50, 99, 100), [0, 0, 1, 3, 64, 250, 255])

    def test_soft_written_out(self):
        self.assertEqual(self.given("soft", 0, 2, 3, 10, 90, 99, 100), [0, 0, 1, 7, 248, 255, 255])
        # A half: 127.5.
        self.assertEqual(self.given("soft", 50), [128])

    def test_switch_written_out(self):
        self.assertEqual(self.given("switch", 0, 1, 49, 50, 51, 100), [0, 0, 0, 255, 255, 255])

    def test_limit_is_rounded_down(self):
        text = line(1, limit=1) + line(2, limit=50) + line(3, limit=99) + line(4, limit=100)
        self.assertEqual(last_answer(patch(text), play(1, 100), outs()), [4, 2, 127, 252, 255])
        # What the curve comes to is rounded first: half of 128, not half of 127.5.
        self.assertEqual(last_answer(patch(text), play(1, 50), outs()), [4, 1, 64, 126, 128])

    def test_a_limit_under_a_switch(self):
        text = line(1, curve="switch", limit=50) + line(2, curve="switch", limit=1)
        self.assertEqual(last_answer(patch(text), play(1, 49), outs()), [2, 0, 0])
        self.assertEqual(last_answer(patch(text), play(1, 50), outs()), [2, 127, 2])

    def test_load_and_phase_do_not_matter(self):
        text = line(1, load=0, phase=1) + line(2, load=5000, phase=3)
        self.assertEqual(last_answer(patch(text), play(1, 40), outs()), [2, 102, 102])


class Order(unittest.TestCase):
    def test_by_the_dimmers_numbers(self):
        text = line(3, 9) + line(5, 2) + line(77, 64) + line(128, 1)
        calls = [play(9, 100), play(2, 20), play(64, 40), play(1, 60)]
        self.assertEqual(last_answer(patch(text), *calls, outs()), [4, 255, 51, 102, 153])

    def test_several_on_one_channel(self):
        text = line(1, 5, "linear", 100) + line(2, 6) + line(3, 5, "square", 100) + line(4, 5, "soft", 50)
        self.assertEqual(last_answer(patch(text), play(5, 50), outs()), [4, 128, 0, 64, 64])

    def test_the_newest_patch_counts(self):
        calls = [play(1, 100), play(2, 20)]
        self.assertEqual(last_answer(*calls, patch(line(1, 1) + line(2, 2)), patch(line(9, 2)), outs()), [1, 51])


class RoundedLevels(unittest.TestCase):
    def check(self, rounded, *calls):
        told = answered(patch(line(1) + line(2, 1, "switch")), *calls, level(1), outs())
        self.assertEqual(told[-2][2], rounded)
        self.assertEqual(told[-1], [2, gives("linear", 100, rounded), gives("switch", 100, rounded)])
        return told[-2][:2]

    def test_a_half_counts_as_the_level_above(self):
        self.assertEqual(self.check(50, play(1, 99), grand(50)), [99, 2])
        self.assertEqual(self.check(1, play(1, 1), grand(50)), [1, 2])

    def test_beside_a_half(self):
        self.assertEqual(self.check(49, play(1, 97), grand(51)), [4947, 100])
        self.assertEqual(self.check(0, play(1, 49), grand(1)), [49, 100])
        self.assertEqual(self.check(10, play(1, 20), master(0, HOLDS_DOWN, 1, 49)), [51, 5])

    def test_all_that_makes_a_level(self):
        text = "".join(line(number, number) for number in range(1, 6))
        calls = [
            patch(text), play(1, 100), master(0, ADDS, 2, 80), fader(0, 50), play(3, 100), master(1, HOLDS_DOWN, 3, 60),
            park(4, 100),
        ]
        self.assertEqual(last_answer(*calls, outs()), [5, 255, 102, 102, 255, 0])
        self.assertEqual(last_answer(*calls, grand(50), outs()), [5, 128, 51, 51, 255, 0])
        self.assertEqual(last_answer(*calls, black(1), outs()), [5, 0, 0, 0, 255, 0])


if __name__ == "__main__":
    unittest.main()
