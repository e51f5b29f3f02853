"""The bounds that the calls and a patch's text share."""

LAST_CHANNEL = 64
MASTERS = 8
FULL = 100


def is_channel(number):
    return 1 <= number <= LAST_CHANNEL


def is_level(number):
    """Whether a level, a fader or the grand master may be at this number."""
    return 0 <= number <= FULL


def is_master(number):
    return 0 <= number < MASTERS


def is_choice(number):
    """Whether a call's on or kind may be this number."""
    return 0 <= number <= 1
