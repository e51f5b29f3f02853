"""The calls that only ask: each answers a list of whole numbers, and none changes anything."""

from stagemasters.bounds import is_channel
from stagemasters.dimming import dimmer_gives
from stagemasters.levels import channel_level, held, wants
from stagemasters.quotients import lowest_terms, nearest
from stagemasters.refusals import NO_SUCH

NOTHING_WANTS_IT = 0
IS_PARKED = 10


def tell_level(board, channel):
    if not is_channel(channel):
        return [NO_SUCH]
    level = channel_level(board, channel)
    terms = lowest_terms(level[0], level[1])
    return [terms[0], terms[1], nearest(level[0], level[1])]


def tell_outs(board):
    told = [len(board.dimmers)]
    for dimmer in board.dimmers:
        level = channel_level(board, dimmer.channel)
        told.append(dimmer_gives(dimmer, nearest(level[0], level[1])))
    return told


def tell_why(board, channel):
    if not is_channel(channel):
        return [NO_SUCH]
    return [who_makes(board, channel), len(held(board, channel))]


def who_makes(board, channel):
    """The number that says who makes a channel's level."""
    if channel in board.parked:
        return IS_PARKED
    wanted = wants(board, channel)
    greatest = max(wanted)
    if greatest == 0:
        return NOTHING_WANTS_IT
    # What's played stands ahead of the masters: it is told as 1, master 0 as 2.
    return wanted.index(greatest) + 1
