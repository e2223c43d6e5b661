"""The shapes that rectangles make up (point 45)."""

from gatesread.groups import least_members
from gatesread.neighbours import Neighbours


def shape_numbers(rectangles):
    """Return for each rectangle the least number of a rectangle of its shape."""
    masks = Neighbours(rectangles, 0)
    joined = []
    for a, rectangle in enumerate(masks.rectangles):
        joined.append(masks.touching(a, (rectangle[0],)))
    return least_members(joined)
