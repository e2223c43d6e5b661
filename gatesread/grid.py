"""Where the columns, rows and channels lie (points 36, 40 and 41)."""

from gatesread.channels import track_count

COLUMN_WIDTH = 8
FIRST_MIDDLE = 20
TRACK_HEIGHT = 7
ROW_HEIGHT = 52
FIRST_BOTTOM = 4


def middle(column):
    """Return the x of the middle of a column."""
    return COLUMN_WIDTH * column + FIRST_MIDDLE


def channel_height(channel):
    """Return the height of a channel."""
    return TRACK_HEIGHT * track_count(channel) + 3


def channel_tops(channels):
    """Return the list of the tops of the channels; each is the bottom of the row above."""
    tops = []
    bottom = FIRST_BOTTOM
    for channel in channels:
        tops.append(bottom + channel_height(channel))
        bottom = tops[-1] + ROW_HEIGHT
    return tops
