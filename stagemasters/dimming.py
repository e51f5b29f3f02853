"""What a dimmer gives at a level of its channel."""

from stagemasters.quotients import nearest

MOST_GIVEN = 255
SWITCHES_AT = 50


def dimmer_gives(dimmer, level):
    return curve_at(dimmer.curve, level) * dimmer.limit // 100


def curve_at(curve, level):
    """What a curve comes to at a level."""
    if curve == "linear":
        return nearest(MOST_GIVEN * level, 100)
    if curve == "square":
        return nearest(MOST_GIVEN * level * level, 10000)
    if curve == "soft":
        return nearest(MOST_GIVEN * level * level * (300 - 2 * level), 1000000)
    return MOST_GIVEN if level >= SWITCHES_AT else 0
