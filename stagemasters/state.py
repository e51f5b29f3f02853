"""What one object keeps from call to call."""

from stagemasters.bounds import FULL, LAST_CHANNEL, MASTERS

ADDS = 0
HOLDS_DOWN = 1


class Master:
    """A master as it is when it has just been set: levels has a level for each of its channels."""

    def __init__(self, kind, levels):
        self.kind = kind
        self.levels = levels
        self.fader = 0
        self.flashed = 0
        self.soloed = 0


class Board:
    """The board as it stands at first, with a patch without dimmers."""

    def __init__(self):
        self.dimmers = []
        # Channel 1 is the first of the list.
        self.played = [0] * LAST_CHANNEL
        self.masters = [Master(ADDS, {}) for number in range(MASTERS)]
        self.grand = FULL
        self.black = 0
        # The level of each parked channel.
        self.parked = {}
