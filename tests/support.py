"""Calls as the interface writes them, and what came of them."""

from stagemasters.board import answers, answers_on
from stagemasters.state import Board

GREATEST = 4294967295
ADDS = 0
HOLDS_DOWN = 1


def patch(text):
    signs = list(text) if isinstance(text, bytes) else [ord(sign) for sign in text]
    return [0, len(signs)] + signs


def play(channel, level):
    return [1, channel, level]


def master(number, kind, *levels):
    return [2, number, kind, len(levels)] + list(levels)


def fader(number, level):
    return [3, number, level]


def flash(number, on):
    return [4, number, on]


def solo(number, on):
    return [5, number, on]


def grand(level):
    return [6, level]


def joined(calls):
    return [number for call in calls for number in call]


def parted(told):
    """A list of answers, each a list, out of what answers gives back."""
    parts = []
    place = 0
    while place < len(told):
        behind = place + 1 + told[place]
        parts.append(told[place + 1:behind])
        place = behind
    if place != len(told):
        raise AssertionError(f"the last answer is cut off: {told}")
    return parts


def answered(*calls):
    return parted(answers(joined(calls)))


def last_answer(*calls):
    return answered(*calls)[-1]


def board_after(*calls):
    board = Board()
    answers_on(board, joined(calls))
    return board


def told_of(board):
    """All that a board keeps, as plain values that can be compared."""
    told = dict(vars(board))
    told["dimmers"] = [vars(dimmer) for dimmer in board.dimmers]
    told["masters"] = [vars(one) for one in board.masters]
    return told


def state_after(*calls):
    return told_of(board_after(*calls))
