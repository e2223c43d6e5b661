"""How rectangles lie to each other (points 44, 46 and 48)."""


def gaps(a, b):
    """Return how far two rectangles are apart in x and in y, negative where they overlap."""
    return max(a[1], b[1]) - min(a[3], b[3]), max(a[2], b[2]) - min(a[4], b[4])


def touches(a, b):
    """Return True if two rectangles touch, otherwise False."""
    across, upward = gaps(a, b)
    # If both are 0, the rectangles have only a corner in common.
    return across <= 0 and upward <= 0 and across + upward < 0


def distance(a, b):
    """Return the distance of two rectangles."""
    across, upward = gaps(a, b)
    return max(0, across, upward)


def surrounds(outer, inner):
    """Return True if the first rectangle surrounds the second one, otherwise False."""
    return reaches_beyond(outer, inner, 1)


def lies_within(inner, outer):
    """Return True if no point of the first rectangle is outside of the second one."""
    return reaches_beyond(outer, inner, 0)


def reaches_beyond(outer, inner, margin):
    """Return True if a rectangle reaches at least a margin beyond another one on each side."""
    return (outer[1] <= inner[1] - margin and outer[2] <= inner[2] - margin
            and outer[3] >= inner[3] + margin and outer[4] >= inner[4] + margin)


def holds_place(rectangle, x, y):
    """Return True if a place lies in a rectangle or on its edge, otherwise False."""
    return rectangle[1] <= x <= rectangle[3] and rectangle[2] <= y <= rectangle[4]
