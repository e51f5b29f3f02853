"""Calls as the interface writes them, and what came of them."""

from stagemasters.board import answers, answers_on
from stagemasters.state import Board

GREATEST = 4294967295
CHANNELS = range(1, 65)
MASTERS = range(8)
CURVES = ("linear", "square", "soft", "switch")
ADDS = 0
HOLDS_DOWN = 1


def patch(text):
    signs = list(text) if isinstance(text, bytes) else [ord(sign) for sign in text]
    return [0, len(signs)] + signs


def play(channel, at):
    return [1, channel, at]


def master(number, kind, *levels):
    return [2, number, kind, len(levels)] + list(levels)


def fader(number, at):
    return [3, number, at]


def flash(number, on):
    return [4, number, on]


def solo(number, on):
    return [5, number, on]


def grand(at):
    return [6, at]


def black(on):
    return [7, on]


def park(channel, at):
    return [8, channel, at]


def free(channel):
    return [9, channel]


def level(channel):
    return [10, channel]


def outs():
    return [11]


def why(channel):
    return [12, channel]


def joined(calls):
    return [number for call in calls for number in call]


def parted(told):
    """A list of answers, each a list, out of what answers gives back."""
    parts = []
    place = 0
    while place < len(told):
        behind = place + 1 + told[place]
        parts.append(told[place + 1:behind])
        place = behind
    if place != len(told):
        raise AssertionError(f"the last answer is cut off: {told}")
    return parts


def answered(*calls):
    return parted(answers(joined(calls)))


def last_answer(*calls):
    return answered(*calls)[-1]


def board_after(*calls):
    board = Board()
    answers_on(board, joined(calls))
    return board


def told_of(board):
    """All that a board keeps, as plain values that can be compared."""
    told = dict(vars(board))
    told["dimmers"] = [vars(dimmer) for dimmer in board.dimmers]
    told["masters"] = [vars(one) for one in board.masters]
    return told


def state_after(*calls):
    return told_of(board_after(*calls))


def asked_after(*calls):
    """All that can be asked of a board: each channel's level and why, and the outs."""
    asking = [level(channel) for channel in CHANNELS] + [why(channel) for channel in CHANNELS] + [outs()]
    return answered(*calls, *asking)[len(calls):]


def line(number=1, channel=1, curve="linear", limit=100, load=0, phase=1):
    return f"{number} {channel} {curve} {limit} {load} {phase}\n"


def drawn_levels(chance, most=64):
    """Channels, rising, and levels by turns."""
    channels = sorted(chance.sample(CHANNELS, chance.randint(0, most)))
    return [number for channel in channels for number in (channel, drawn_level(chance))]


def drawn_level(chance):
    return chance.choice((0, 1, 49, 50, 51, 99, 100, chance.randint(0, 100), chance.randint(0, 100)))


def drawn_patch(chance, most=128):
    numbers = sorted(chance.sample(range(1, 129), chance.randint(0, most)))
    return patch("".join(
        line(number, chance.choice(CHANNELS), chance.choice(CURVES), chance.randint(1, 100), chance.randint(0, 5000),
             chance.randint(1, 3))
        for number in numbers
    ))


def drawn_settings(chance, channels=CHANNELS):
    """Calls that set a board: for each master its kind and levels, fader, flash and solo, and all the rest."""
    calls = [drawn_patch(chance), grand(drawn_level(chance))]
    calls += [play(channel, drawn_level(chance)) for channel in channels]
    for number in MASTERS:
        kind = chance.choice((ADDS, HOLDS_DOWN))
        calls += [master(number, kind, *drawn_levels(chance)), fader(number, drawn_level(chance))]
        if kind == ADDS:
            calls += [flash(number, int(chance.random() < 0.2)), solo(number, int(chance.random() < 0.1))]
    calls += [park(channel, drawn_level(chance)) for channel in channels if chance.random() < 0.1]
    return calls + [black(int(chance.random() < 0.1))]
