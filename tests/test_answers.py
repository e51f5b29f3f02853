"""answers: how the calls stand in the one list, and what is given back."""

import itertools
import unittest

from stagemasters.board import answers
from support import (
    ADDS, GREATEST, HOLDS_DOWN, answered, asked_after, black, fader, flash, free, grand, joined, level, master, outs,
    park, patch, play, solo, state_after, why,
)

GOOD = "1 1 linear 100 0 1\n"

MIXED = (
    (patch(GOOD + GOOD), [3, -6, 1, 2]), (play(1, 50), [1, 0]), (patch(GOOD), [1, 1]), (master(0, ADDS), [1, 0]),
    (patch("\n" * 8193), [1, -2]), (master(1, HOLDS_DOWN, 1, 2, 3, 4), [1, 0]), (fader(1, 100), [1, 0]),
    (flash(1, 1), [1, -3]), (flash(0, 1), [1, 0]), (solo(1, 2), [1, -1]), (solo(0, 1), [1, 0]), (patch(""), [1, 0]),
    (master(2, ADDS, 9), [1, -1]), (grand(101), [1, -1]), (grand(0), [1, 0]), (play(GREATEST, GREATEST), [1, -1]),
    (patch("x"), [3, -6, 0, 1]), (grand(50), [1, 0]), (solo(0, 0), [1, 0]), (play(1, 33), [1, 0]),
    (level(1), [3, 33, 2, 17]), (outs(), [1, 0]), (patch(GOOD), [1, 1]), (outs(), [2, 1, 43]), (why(1), [2, 1, 0]),
    (fader(1, 50), [1, 0]), (level(1), [3, 3267, 200, 16]), (why(1), [2, 1, 1]), (level(0), [1, -1]),
    (why(65), [1, -1]), (black(2), [1, -1]), (black(1), [1, 0]), (level(1), [3, 0, 1, 0]), (free(1), [1, -3]),
    (park(1, 101), [1, -1]), (park(1, 20), [1, 0]), (level(1), [3, 20, 1, 20]), (outs(), [2, 1, 51]),
    (why(1), [2, 10, 1]), (free(65), [1, -1]), (free(1), [1, 0]), (outs(), [2, 1, 0]),
)


class TheList(unittest.TestCase):
    def test_written_out(self):
        self.assertEqual(
            answers([1, 64, 100, 2, 7, 1, 4, 1, 50, 2, 60, 4, 7, 1, 5, 6, 1, 3, 7, 100, 6, 100, 0, 2, 65, 10, 0, 0]),
            [1, 0, 1, 0, 1, -3, 1, 0, 1, 0, 1, 0, 3, -6, 0, 1, 1, 0],
        )
        self.assertEqual(
            answers(
                [1, 64, 77, 6, 50, 10, 64, 12, 64, 11, 8, 64, 5, 10, 64, 12, 64]
                + [9, 64, 9, 64, 7, 1, 10, 64, 12, 0]
            ),
            [1, 0, 1, 0, 3, 77, 2, 39, 2, 1, 0, 1, 0, 1, 0, 3, 5, 1, 5, 2, 10, 0]
            + [1, 0, 1, -3, 1, 0, 3, 0, 1, 0, 1, -1],
        )

    def test_each_call_alone(self):
        self.assertEqual(answers([0, 0]), [1, 0])
        self.assertEqual(answers([1, 1, 0]), [1, 0])
        self.assertEqual(answers([2, 0, 0, 0]), [1, 0])
        self.assertEqual(answers([3, 0, 0]), [1, 0])
        self.assertEqual(answers([4, 0, 0]), [1, 0])
        self.assertEqual(answers([5, 0, 0]), [1, 0])
        self.assertEqual(answers([6, 0]), [1, 0])
        self.assertEqual(answers([7, 0]), [1, 0])
        self.assertEqual(answers([8, 1, 0]), [1, 0])
        self.assertEqual(answers([9, 1]), [1, -3])
        self.assertEqual(answers([10, 1]), [3, 0, 1, 0])
        self.assertEqual(answers([11]), [1, 0])
        self.assertEqual(answers([12, 1]), [2, 0, 0])

    def test_answers_stand_one_behind_another(self):
        calls = joined([call for call, told in MIXED])
        self.assertEqual(answers(calls), joined([told for call, told in MIXED]))

    def test_a_refused_row_is_passed_over_whole(self):
        rows = (patch("\n" * 8193), patch("x" * 30), master(8, ADDS, 1, 2), master(0, 2, 6, 6, 6), master(0, ADDS, 6))
        for row in rows:
            self.assertEqual(answered(row, grand(5), grand(101))[1:], [[0], [-1]])

    def test_bytes_and_levels_that_look_like_calls(self):
        self.assertEqual(answered(patch(bytes([6, 5, 4, 3, 2, 1, 0])), grand(1)), [[-6, 0, 1], [0]])
        self.assertEqual(answered(master(0, ADDS, 1, 6, 2, 5, 3, 4, 4, 3), grand(1)), [[0], [0]])

    def test_400_calls(self):
        calls = joined([play(1 + number % 64, number % 101) for number in range(400)])
        self.assertEqual(answers(calls), [1, 0] * 400)

    def test_a_list_as_long_as_may_be(self):
        calls = joined([patch("1" * 29900), patch(GOOD)])
        self.assertEqual(answers(calls), [1, -2, 1, 1])
        many = joined([patch(GOOD * 6) for number in range(80)])
        self.assertEqual(answers(many), [3, -6, 1, 2] * 80)

    def test_whole_numbers_alone(self):
        told = answers(joined([call for call, told in MIXED]))
        self.assertIs(type(told), list)
        self.assertEqual({type(number) for number in told}, {int})


class Watched(list):
    """A list that tells of every change, also of one that is taken back."""

    def changed(self, *given, **named):
        raise AssertionError("what is handed in was changed")

    append = extend = insert = pop = remove = reverse = sort = clear = changed
    __setitem__ = __delitem__ = __iadd__ = __imul__ = changed


class NothingKept(unittest.TestCase):
    def test_what_is_handed_in_is_as_it_was(self):
        calls = joined([call for call, told in MIXED])
        before = list(calls)
        answers(calls)
        self.assertEqual(calls, before)

    def test_not_changed_for_a_while_either(self):
        answers(Watched(joined([call for call, told in MIXED])))

    def test_what_is_given_back_is_another_list_each_time(self):
        calls = joined([call for call, told in MIXED])
        first = answers(calls)
        kept = list(first)
        second = answers(calls)
        self.assertEqual(first, second)
        first.clear()
        self.assertEqual(second, kept)
        self.assertEqual(answers(calls), kept)

    def test_each_time_is_as_the_first(self):
        self.assertEqual(answers(master(1, HOLDS_DOWN, 1, 50)), [1, 0])
        self.assertEqual(answers(flash(1, 1)), [1, 0])
        at_first = state_after()
        asked_at_first = asked_after()
        answers(joined([call for call, told in MIXED]))
        answers(joined([patch(GOOD), play(1, 50), grand(5), black(1), park(2, 5)]))
        self.assertEqual(state_after(), at_first)
        self.assertEqual(asked_after(), asked_at_first)


class Order(unittest.TestCase):
    """Promise 3: in whatever order things are set, it's the same."""

    def check(self, calls, told):
        expected = state_after(*calls)
        for order in itertools.permutations(range(len(calls))):
            ordered = [calls[place] for place in order]
            self.assertEqual(answered(*ordered), [told[place] for place in order], order)
            self.assertEqual(state_after(*ordered), expected, order)

    def test_different_things(self):
        self.check(
            [patch(GOOD), play(5, 40), master(1, HOLDS_DOWN, 5, 60), fader(0, 70), flash(0, 1), solo(2, 1), grand(80)],
            [[1], [0], [0], [0], [0], [0], [0]],
        )

    def test_the_keys_and_the_fader_of_one_master(self):
        self.check(
            [fader(3, 70), flash(3, 1), solo(3, 1), grand(50), play(1, 100)], [[0], [0], [0], [0], [0]]
        )

    def test_several_of_a_kind(self):
        self.check(
            [play(1, 10), play(2, 90), master(0, ADDS, 1, 50), master(1, ADDS, 1, 60), solo(2, 1), solo(3, 1)],
            [[0], [0], [0], [0], [0], [0]],
        )

    def test_refused_ones_between(self):
        self.check(
            [play(1, 10), play(1, 101), fader(0, 60), fader(8, 70), patch(GOOD), patch("x")],
            [[0], [-1], [0], [-1], [1], [-6, 0, 1]],
        )


if __name__ == "__main__":
    unittest.main()
