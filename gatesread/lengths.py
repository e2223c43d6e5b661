"""The lengths of nets (point 32)."""

from gatesread.channels import track_count

COLUMN_LENGTH = 8
TRACK_LENGTH = 7


def net_length(channels, net):
    """Return the length of a net, 0 if it is in no channel."""
    length = 0
    for channel in channels:
        tracks = track_count(channel)
        length += sum([wire_length(wire, tracks) for wire in channel if wire[0] == net])
    return length


def wire_length(wire, tracks):
    """Return the length of a net in a channel with a number of tracks."""
    net, track, first, last, pins = wire
    length = COLUMN_LENGTH * (last - first)
    for side, column in pins:
        if side == "below":
            length += TRACK_LENGTH * track + 5
        else:
            length += TRACK_LENGTH * (tracks - track) - 2
    return length
