"""Routing the nets in the channels between the rows (points 29 to 31)."""

from gatesread.arranging import arranged_pins
from gatesread.circuits import net_count


def route(circuit, arrangement):
    """Return the list of the channels of an arrangement."""
    nets = [{} for _ in range(net_count(circuit))]
    for net, row, column in arranged_pins(circuit, arrangement):
        nets[net].setdefault(row, []).append(column)
    return [lay_tracks(joined_nets(nets, k)) for k in range(len(arrangement) - 1)]


def is_in_channel(rows, k):
    """Return True if a net is in channel k, otherwise False.

    rows is a dict from the rows in which the net has pins to the ascending lists of their columns.
    """
    lowest = min(list(rows))
    highest = max(list(rows))
    if lowest == highest:
        return k == lowest + 1 and len(rows[lowest]) > 1
    return lowest < k <= highest


def joined_nets(nets, k):
    """Return the list of the nets that are in channel k, with the pins to which each is joined.

    nets is a list with such a dict as is_in_channel takes for each net.
    """
    return [(net, joined_pins(rows, k)) for net, rows in enumerate(nets) if is_in_channel(rows, k)]


def joined_pins(rows, k):
    """Return the pins to which a net is joined in channel k, in ascending order of the columns."""
    below = rows.get(k - 1, [])
    if is_in_channel(rows, k - 1):
        below = below[:1]
    pins = [("below", column) for column in below]
    for column in rows.get(k, []):
        pins.append(("above", column))
    return sorted(pins, key=lambda pin: pin[1])


def lay_tracks(joined):
    """Return the channel of a list of nets with the pins to which each is joined."""
    ends = []
    channel = []
    for net, pins in sorted(joined, key=first_of):
        first = pins[0][1]
        last = pins[-1][1]
        track = free_track(ends, first)
        if track == len(ends):
            ends.append(last)
        else:
            ends[track] = last
        channel.append((net, track, first, last, pins))
    return sorted(channel, key=lambda wire: (wire[1], wire[2]))


def first_of(joined):
    """Return the first column of the span of a net with the pins to which it is joined."""
    return joined[1][0][1]


def free_track(ends, first):
    """Return the lowest track on which a span may begin at a column.

    ends is a list of the last columns that are taken on the tracks so far.
    """
    for track, last in enumerate(ends):
        if last < first:
            return track
    return len(ends)


def track_count(channel):
    """Return the number of tracks of a channel."""
    return max([wire[1] + 1 for wire in channel], default=0)


def fullness(channel):
    """Return the greatest number of spans that have one column in common."""
    spans = [(first, last) for net, track, first, last, pins in channel]
    return max([spans_over(spans, column) for column, last in spans], default=0)


def spans_over(spans, column):
    """Return the number of the spans in which a column lies."""
    return len([first for first, last in spans if first <= column <= last])
