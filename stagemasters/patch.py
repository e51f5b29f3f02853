"""A patch's text, read into dimmers, or its first fault."""

from stagemasters.bounds import LAST_CHANNEL

LINE_END = 10
BLANK = 32
NOUGHT = 48
NINE = 57

CURVES = ("linear", "square", "soft", "switch")
FIELDS = 6
MOST_DIGITS = 4
LAST_DIMMER = 128
MOST_LIMIT = 100
MOST_LOAD = 5000
LAST_PHASE = 3

NO_SUCH_LINE = 1
NOT_RISING = 2


class PatchFault(Exception):
    """The first fault of a text that is no patch's: the line, from 0, and why."""

    def __init__(self, line, why):
        self.line = line
        self.why = why


class Dimmer:
    """One line of a patch."""

    def __init__(self, number, channel, curve, limit, load, phase):
        self.number = number
        self.channel = channel
        self.curve = curve
        self.limit = limit
        self.load = load
        self.phase = phase


def read_patch(text):
    """The dimmers of a patch's text, in order; raises PatchFault if it is none."""
    lines = parts_between(text, LINE_END)
    # Behind the last byte 10 nothing may stand; a text without one is all rest.
    rest = lines.pop()
    dimmers = []
    number_before = 0
    for place, line in enumerate(lines):
        dimmer = read_dimmer(line)
        if dimmer is None:
            raise PatchFault(place, NO_SUCH_LINE)
        if dimmer.number <= number_before:
            raise PatchFault(place, NOT_RISING)
        dimmers.append(dimmer)
        number_before = dimmer.number
    if len(rest) > 0:
        raise PatchFault(len(lines), NO_SUCH_LINE)
    return dimmers


def parts_between(signs, mark):
    """The parts of a list of bytes that stand before, between and behind its marks."""
    parts = []
    part = []
    for sign in signs:
        if sign == mark:
            parts.append(part)
            part = []
        else:
            part.append(sign)
    parts.append(part)
    return parts


def read_dimmer(line):
    """The dimmer that a line tells, or None if it is no such line."""
    fields = parts_between(line, BLANK)
    if len(fields) != FIELDS:
        return None
    number = read_number(fields[0], 1, LAST_DIMMER)
    channel = read_number(fields[1], 1, LAST_CHANNEL)
    curve = read_curve(fields[2])
    limit = read_number(fields[3], 1, MOST_LIMIT)
    load = read_number(fields[4], 0, MOST_LOAD)
    phase = read_number(fields[5], 1, LAST_PHASE)
    if None in (number, channel, curve, limit, load, phase):
        return None
    return Dimmer(number, channel, curve, limit, load, phase)


def read_number(signs, least, greatest):
    """The number that is written there, or None if it is none from least to greatest."""
    if len(signs) < 1 or len(signs) > MOST_DIGITS:
        return None
    if signs[0] == NOUGHT and len(signs) > 1:
        return None
    number = 0
    for sign in signs:
        if sign < NOUGHT or sign > NINE:
            return None
        number = number * 10 + sign - NOUGHT
    if number < least or number > greatest:
        return None
    return number


def read_curve(signs):
    """The word of the curve that is written there, or None if it is no curve's."""
    for word in CURVES:
        if signs == [ord(sign) for sign in word]:
            return word
    return None
