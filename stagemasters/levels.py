"""A channel's level: what wants it, and what is left of that."""

from stagemasters.bounds import FULL
from stagemasters.state import HOLDS_DOWN

# A level's hundredths times a fader's: so many parts keep what a master leaves a whole number.
ALL_OF_IT = 10000


def channel_level(board, channel):
    """The upper and the lower number of a channel's level, not in lowest terms."""
    if channel in board.parked:
        return (board.parked[channel], 1)
    if board.black == 1:
        return (0, 1)
    upper = max(wants(board, channel)) * board.grand
    lower = FULL * FULL
    for left in held(board, channel):
        upper = upper * left
        lower = lower * ALL_OF_IT
    return (upper, lower)


def wants(board, channel):
    """What wants a channel, in hundredths of a level: what's played, then each master's, by their numbers."""
    is_solo = any([master.soloed == 1 for master in board.masters])
    wanted = [0 if is_solo else board.played[channel - 1] * FULL]
    for master in board.masters:
        counts = master.soloed == 1 or not is_solo
        wanted.append(added_by(master, channel) if counts else 0)
    return wanted


def added_by(master, channel):
    """What a master adds to a channel, in hundredths of a level; one that holds down adds nothing."""
    if master.kind == HOLDS_DOWN:
        return 0
    hundredths = FULL if master.flashed == 1 else master.fader
    return master.levels.get(channel, 0) * hundredths


def held(board, channel):
    """What is left by each master that leaves less than all of a channel, in parts of ALL_OF_IT."""
    lefts = [left_by(master, channel) for master in board.masters]
    return [left for left in lefts if left < ALL_OF_IT]


def left_by(master, channel):
    """What a master leaves of a channel, in parts of ALL_OF_IT; one that adds leaves all."""
    if master.kind != HOLDS_DOWN:
        return ALL_OF_IT
    return ALL_OF_IT - master.levels.get(channel, 0) * (FULL - master.fader)
