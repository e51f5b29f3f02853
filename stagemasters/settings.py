"""The calls that set something: each answers a list of whole numbers, and a refused one changes nothing."""

from stagemasters.bounds import is_channel, is_choice, is_level, is_master
from stagemasters.patch import PatchFault, read_patch
from stagemasters.refusals import FAULTY, NO_SUCH, NOT_NOW, TOO_LONG
from stagemasters.state import HOLDS_DOWN, Master

MOST_BYTES = 8192

DONE = 0


def set_patch(board, text):
    if len(text) > MOST_BYTES:
        return [TOO_LONG]
    try:
        dimmers = read_patch(text)
    except PatchFault as fault:
        return [FAULTY, fault.line, fault.why]
    board.dimmers = dimmers
    return [len(dimmers)]


def set_played(board, channel, level):
    if not is_channel(channel) or not is_level(level):
        return [NO_SUCH]
    board.played[channel - 1] = level
    return [DONE]


def set_master(board, number, kind, levels):
    if not is_master(number) or not is_choice(kind) or not are_levels(levels):
        return [NO_SUCH]
    by_channel = {}
    for place in range(0, len(levels), 2):
        by_channel[levels[place]] = levels[place + 1]
    # A new one, so that nothing of fader, flash and solo is left from before.
    board.masters[number] = Master(kind, by_channel)
    return [DONE]


def are_levels(levels):
    """Whether the numbers are channels, rising, and levels by turns."""
    if len(levels) % 2 != 0:
        return False
    channel_before = 0
    for place in range(0, len(levels), 2):
        channel = levels[place]
        if not is_channel(channel) or not is_level(levels[place + 1]):
            return False
        if channel <= channel_before:
            return False
        channel_before = channel
    return True


def set_fader(board, number, level):
    if not is_master(number) or not is_level(level):
        return [NO_SUCH]
    master = board.masters[number]
    master.fader = level
    return [DONE]


def set_flash(board, number, on):
    refusal = key_refusal(board, number, on)
    if refusal != DONE:
        return [refusal]
    master = board.masters[number]
    master.flashed = on
    return [DONE]


def set_solo(board, number, on):
    refusal = key_refusal(board, number, on)
    if refusal != DONE:
        return [refusal]
    master = board.masters[number]
    master.soloed = on
    return [DONE]


def key_refusal(board, number, on):
    """Why a master's flash or solo can't be put so, or DONE if it can."""
    if not is_master(number) or not is_choice(on):
        return NO_SUCH
    if board.masters[number].kind == HOLDS_DOWN:
        return NOT_NOW
    return DONE


def set_grand(board, level):
    if not is_level(level):
        return [NO_SUCH]
    board.grand = level
    return [DONE]


def set_black(board, on):
    if not is_choice(on):
        return [NO_SUCH]
    board.black = on
    return [DONE]


def set_parked(board, channel, level):
    if not is_channel(channel) or not is_level(level):
        return [NO_SUCH]
    board.parked[channel] = level
    return [DONE]


def set_free(board, channel):
    if not is_channel(channel):
        return [NO_SUCH]
    if channel not in board.parked:
        return [NOT_NOW]
    board.parked.pop(channel)
    return [DONE]
