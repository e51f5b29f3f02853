"""patch: what is a patch's text, and the first fault of one that is none."""

import re
import unittest

from support import answered, fader, grand, last_answer, line, master, patch, play, solo, state_after

GOOD = "1 1 linear 100 0 1\n"
LINES = "1 5 linear 100 2000 1\n7 5 square 50 0 2\n128 64 soft 1 5000 3\n"
LINE_FORM = re.compile(
    rb"(0|[1-9][0-9]{0,3}) (0|[1-9][0-9]{0,3}) (?:linear|square|soft|switch)"
    rb" (0|[1-9][0-9]{0,3}) (0|[1-9][0-9]{0,3}) (0|[1-9][0-9]{0,3})"
)
LINE_BOUNDS = ((1, 128), (1, 64), (1, 100), (0, 5000), (1, 3))


def expected(text):
    """What patch is to answer, told in another way than the program's."""
    lines = text.split(b"\n")
    before = 0
    for place, line in enumerate(lines):
        is_last = place == len(lines) - 1
        if is_last and line == b"":
            break
        form = LINE_FORM.fullmatch(line)
        if is_last or form is None:
            return [-6, place, 1]
        numbers = [int(group) for group in form.groups()]
        if not all(low <= number <= high for number, (low, high) in zip(numbers, LINE_BOUNDS)):
            return [-6, place, 1]
        if numbers[0] <= before:
            return [-6, place, 2]
        before = numbers[0]
    return [len(lines) - 1]


def dimmers_after(*calls):
    return [tuple(dimmer.values()) for dimmer in state_after(*calls)["dimmers"]]


class GoodTexts(unittest.TestCase):
    def test_empty_text_is_a_patch_without_dimmers(self):
        self.assertEqual(last_answer(patch("")), [0])
        self.assertEqual(dimmers_after(patch("")), [])

    def test_empty_text_takes_the_dimmers_away(self):
        self.assertEqual(answered(patch(LINES), patch("")), [[3], [0]])
        self.assertEqual(dimmers_after(patch(LINES), patch("")), [])

    def test_one_line(self):
        self.assertEqual(last_answer(patch("12 34 soft 56 789 2\n")), [1])
        self.assertEqual(dimmers_after(patch("12 34 soft 56 789 2\n")), [(12, 34, "soft", 56, 789, 2)])

    def test_several_lines_stand_in_order_and_may_share_a_channel(self):
        self.assertEqual(last_answer(patch(LINES)), [3])
        self.assertEqual(
            dimmers_after(patch(LINES)),
            [(1, 5, "linear", 100, 2000, 1), (7, 5, "square", 50, 0, 2), (128, 64, "soft", 1, 5000, 3)],
        )

    def test_a_later_patch_takes_the_place_of_the_earlier(self):
        self.assertEqual(dimmers_after(patch(LINES), patch(GOOD)), [(1, 1, "linear", 100, 0, 1)])

    def test_all_dimmers_there_are(self):
        text = "".join(line(number=str(number)) for number in range(1, 129))
        self.assertEqual(last_answer(patch(text)), [128])
        self.assertEqual([dimmer[0] for dimmer in dimmers_after(patch(text))], list(range(1, 129)))

    def test_each_curve(self):
        for curve in ("linear", "square", "soft", "switch"):
            self.assertEqual(last_answer(patch(line(curve=curve))), [1], curve)
            self.assertEqual(dimmers_after(patch(line(curve=curve)))[0][2], curve)

    def test_a_patch_leaves_the_board_as_it_was(self):
        calls = [play(3, 40), master(1, 0, 2, 30), fader(1, 20), solo(1, 1), master(2, 1, 4, 50), grand(60)]
        before = state_after(*calls)
        after = state_after(*calls, patch(LINES))
        self.assertEqual(len(after["dimmers"]), 3)
        after["dimmers"] = before["dimmers"]
        self.assertEqual(after, before)


class Bounds(unittest.TestCase):
    def check(self, field, least, greatest):
        for number in (least, least + 1, greatest - 1, greatest):
            self.assertEqual(last_answer(patch(line(**{field: str(number)}))), [1], (field, number))
            self.assertEqual(state_after(patch(line(**{field: str(number)})))["dimmers"][0][field], number)
        for number in (least - 1, greatest + 1, 9999, 10000, 4294967297):
            self.assertEqual(last_answer(patch(line(**{field: str(number)}))), [-6, 0, 1], (field, number))

    def test_number(self):
        self.check("number", 1, 128)

    def test_channel(self):
        self.check("channel", 1, 64)

    def test_limit(self):
        self.check("limit", 1, 100)

    def test_load(self):
        self.check("load", 0, 5000)

    def test_phase(self):
        self.check("phase", 1, 3)


class NoSuchLine(unittest.TestCase):
    def refused(self, text, place=0):
        self.assertEqual(last_answer(patch(text)), [-6, place, 1], text)

    def test_needless_noughts(self):
        for field in ("number", "channel", "limit", "load", "phase"):
            for written in ("01", "001", "0001", "00001"):
                self.refused(line(**{field: written}))
        for written in ("00", "000", "0000", "00000"):
            self.refused(line(load=written))

    def test_more_than_four_digits(self):
        for field in ("number", "channel", "limit", "load", "phase"):
            for written in ("10000", "12345", "1" * 500):
                self.refused(line(**{field: written}))

    def test_what_is_no_number(self):
        for field in ("number", "channel", "limit", "load", "phase"):
            for written in ("", "+1", "-1", "1.", "1,0", "x", "1x", "x1", "1_0", "/", ":", "1:", "1/"):
                self.refused(line(**{field: written}))

    def test_digits_of_other_scripts_and_signs_beyond_ascii(self):
        for sign in (b"\xb2", b"\xb9", b"\x00", b"\xff", b"\r", b"\t"):
            self.refused(b"1" + sign + b" 1 linear 100 0 1\n")
            self.refused(b"1 1 linear 100 0 " + sign + b"\n")
            self.refused(b"1 1 linear 100 0 1" + sign + b"\n")

    def test_what_is_no_curve(self):
        for written in ("", "Linear", "SQUARE", "line", "linears", "xsoft", "softswitch", "switc", "0", "1", "cubic"):
            self.refused(line(curve=written))

    def test_blanks(self):
        self.refused(" " + GOOD)
        self.refused("1 1 linear 100 0 1 \n")
        self.refused(" \n")
        self.refused("     \n")
        for place, sign in enumerate(GOOD):
            if sign == " ":
                self.refused(GOOD[:place] + " " + GOOD[place:])
                self.refused(GOOD[:place] + "\t" + GOOD[place + 1:])
                self.refused(GOOD[:place] + GOOD[place + 1:])

    def test_missing_and_further_fields(self):
        fields = GOOD[:-1].split(" ")
        for place in range(len(fields)):
            self.refused(" ".join(fields[:place] + fields[place + 1:]) + "\n")
        for further in ("1", "linear", "0"):
            self.refused(" ".join(fields + [further]) + "\n")
            self.refused(" ".join([further] + fields) + "\n")

    def test_empty_lines(self):
        self.refused("\n")
        self.refused("\n" + GOOD)
        self.refused(GOOD + "\n", 1)
        self.refused(GOOD + "\n" + line(number="2"), 1)

    def test_a_text_that_ends_before_its_byte_10(self):
        for length in range(1, len(GOOD)):
            self.refused(GOOD[:length])
        self.refused(LINES[:-1], 2)
        self.refused(LINES + "1", 3)
        self.refused(LINES + " ", 3)


class NotRising(unittest.TestCase):
    def test_equal_and_below(self):
        for number in ("7", "6", "1"):
            self.assertEqual(last_answer(patch(line(number="7") + line(number=number))), [-6, 1, 2], number)

    def test_one_above_is_enough(self):
        self.assertEqual(last_answer(patch(line(number="7") + line(number="8"))), [2])

    def test_numbers_count_not_their_texts(self):
        self.assertEqual(last_answer(patch(line(number="9") + line(number="10"))), [2])
        self.assertEqual(last_answer(patch(line(number="10") + line(number="9"))), [-6, 1, 2])

    def test_the_line_before_counts(self):
        self.assertEqual(last_answer(patch(line(number="1") + line(number="9") + line(number="5"))), [-6, 2, 2])

    def test_more_lines_than_dimmers(self):
        text = "".join(line(number=str(number)) for number in range(1, 129)) + line(number="128")
        self.assertEqual(last_answer(patch(text)), [-6, 128, 2])


class SeveralFaults(unittest.TestCase):
    def test_the_first_line_that_is_wrong(self):
        self.assertEqual(last_answer(patch(GOOD + GOOD + "x\n")), [-6, 1, 2])
        self.assertEqual(last_answer(patch(GOOD + "x\n" + GOOD)), [-6, 1, 1])
        self.assertEqual(last_answer(patch("x\n" + GOOD + GOOD)), [-6, 0, 1])
        self.assertEqual(last_answer(patch(GOOD + GOOD + GOOD[:-1])), [-6, 1, 2])

    def test_in_one_line_no_such_line_comes_first(self):
        for second in (line(limit="101"), line(phase="0"), line(curve="x"), line(number="01"), GOOD[:-1], "1"):
            self.assertEqual(last_answer(patch(GOOD + second)), [-6, 1, 1], second)


class Length(unittest.TestCase):
    def test_8192_bytes_are_looked_at(self):
        text = GOOD + "x" * (8192 - len(GOOD))
        self.assertEqual(last_answer(patch(text)), [-6, 1, 1])
        self.assertEqual(last_answer(patch("\n" * 8192)), [-6, 0, 1])
        self.assertEqual(last_answer(patch((GOOD * 500)[:8192])), [-6, 1, 2])

    def test_8193_bytes_are_too_many_whatever_they_say(self):
        self.assertEqual(last_answer(patch((GOOD * 500)[:8193])), [-2])
        self.assertEqual(last_answer(patch("x\n" + "1" * 8191)), [-2])
        self.assertEqual(last_answer(patch("\n" * 8193)), [-2])

    def test_the_longest_text_that_may_be_handed_in(self):
        self.assertEqual(last_answer(patch("1" * 29900)), [-2])


class Refused(unittest.TestCase):
    def test_a_refused_patch_changes_nothing(self):
        before = state_after(patch(LINES), play(1, 2))
        for text in ("x\n", GOOD + GOOD, GOOD + "x\n", GOOD[:-1], "\n" * 8193, GOOD + line(number="2")[:-1]):
            self.assertEqual(state_after(patch(LINES), play(1, 2), patch(text)), before, text[:40])

    def test_a_good_patch_is_taken_after_a_refused_one(self):
        self.assertEqual(answered(patch("x"), patch(LINES)), [[-6, 0, 1], [3]])


class AgainstAnotherTelling(unittest.TestCase):
    """Each text one byte away from a patch's, held against what a regular expression says of it."""

    text = b"9 1 soft 9 0 1\n10 64 linear 100 5000 3\n"

    def check(self, text):
        self.assertEqual(last_answer(patch(text)), expected(text), text)

    def test_one_byte_changed(self):
        for place in range(len(self.text)):
            for sign in range(256):
                self.check(self.text[:place] + bytes([sign]) + self.text[place + 1:])

    def test_one_byte_more(self):
        for place in range(len(self.text) + 1):
            for sign in b" \n0123456789/:abz\x00\r\xff":
                self.check(self.text[:place] + bytes([sign]) + self.text[place:])

    def test_one_byte_less_or_a_byte_beside_another(self):
        for place in range(len(self.text)):
            self.check(self.text[:place] + self.text[place + 1:])
            self.check(self.text[:place])
            self.check(self.text[place:])
            self.check(self.text[:place] + self.text[place:place + 2][::-1] + self.text[place + 2:])


if __name__ == "__main__":
    unittest.main()
