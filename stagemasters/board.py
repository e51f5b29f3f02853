"""The calls on one object, read from one list and answered one behind another."""

from stagemasters.questions import tell_level, tell_outs, tell_why
from stagemasters.settings import set_black, set_fader, set_flash, set_free, set_grand, set_master
from stagemasters.settings import set_parked, set_patch, set_played, set_solo
from stagemasters.state import Board

PATCH = 0
PLAY = 1
MASTER = 2
FADER = 3
FLASH = 4
SOLO = 5
GRAND = 6
BLACK = 7
PARK = 8
FREE = 9
LEVEL = 10
OUTS = 11

# How many whole numbers stand behind each call's own number, ahead of its row; the last is why's.
HOW_MANY_NUMBERS = (0, 2, 2, 2, 2, 2, 1, 1, 2, 1, 1, 0, 1)


def answers(calls):
    """For each call on a new object how many numbers are answered, then these."""
    return answers_on(Board(), calls)


def answers_on(board, calls):
    """The same on a board that is there already."""
    told = []
    place = 0
    while place < len(calls):
        call = calls[place]
        behind = place + 1 + HOW_MANY_NUMBERS[call]
        numbers = calls[place + 1:behind]
        row = []
        if call == PATCH or call == MASTER:
            row_start = behind + 1
            behind = row_start + calls[behind]
            row = calls[row_start:behind]
        answer = answer_call(board, call, numbers, row)
        told.append(len(answer))
        told.extend(answer)
        place = behind
    return told


def answer_call(board, call, numbers, row):
    if call == PATCH:
        return set_patch(board, row)
    if call == PLAY:
        return set_played(board, numbers[0], numbers[1])
    if call == MASTER:
        return set_master(board, numbers[0], numbers[1], row)
    if call == FADER:
        return set_fader(board, numbers[0], numbers[1])
    if call == FLASH:
        return set_flash(board, numbers[0], numbers[1])
    if call == SOLO:
        return set_solo(board, numbers[0], numbers[1])
    if call == GRAND:
        return set_grand(board, numbers[0])
    if call == BLACK:
        return set_black(board, numbers[0])
    if call == PARK:
        return set_parked(board, numbers[0], numbers[1])
    if call == FREE:
        return set_free(board, numbers[0])
    if call == LEVEL:
        return tell_level(board, numbers[0])
    if call == OUTS:
        return tell_outs(board)
    return tell_why(board, numbers[0])
