"""The pieces of masks, and how they are joined (points 47 and 48)."""

from gatesread.groups import least_members
from gatesread.neighbours import Neighbours
from gatesread.rectangles import lies_within

DIFFUSIONS = ("ndiff", "pdiff")
WHOLE_LAYERS = ("poly", "metal1", "metal2")

# For each layer of cuts, the layers that they connect with metal1.
CONNECTED_LAYERS = {"contact": ("poly", "ndiff", "pdiff"), "via": ("metal2",)}


def crossing_polys(masks, a):
    """Return the polys that touch a diffusion, in ascending order of their left sides."""
    lefts = [(masks.rectangles[b][1], b) for b in masks.touching(a, ("poly",))]
    return [b for left, b in sorted(lefts)]


def rectangle_pieces(masks, a):
    """Return the list of the pieces of a rectangle, from left to right."""
    rectangle = masks.rectangles[a]
    if rectangle[0] in DIFFUSIONS:
        return cut_parts(rectangle, [masks.rectangles[b] for b in crossing_polys(masks, a)])
    if rectangle[0] in WHOLE_LAYERS:
        return [rectangle]
    return []


def cut_parts(rectangle, polys):
    """Return the parts of a diffusion that polys cut; the polys are given from left to right."""
    layer, left, bottom, right, top = rectangle
    parts = []
    for poly in polys:
        parts.append((layer, left, bottom, poly[1], top))
        left = poly[3]
    parts.append((layer, left, bottom, right, top))
    return parts


def piece_groups(pieces, rectangles):
    """Return for each piece the least piece of its node.

    The contacts and vias that join pieces are taken from the rectangles.
    """
    cuts = [rectangle for rectangle in rectangles if rectangle[0] in CONNECTED_LAYERS]
    masks = Neighbours(pieces + cuts, 0)
    joined = [[] for _ in pieces]
    for one, piece in enumerate(pieces):
        if piece[0] in WHOLE_LAYERS:
            joined[one] += masks.touching(one, (piece[0],))
    for k, cut in enumerate(cuts):
        for one, other in cut_pairs(masks, len(pieces) + k, cut):
            joined[one].append(other)
            joined[other].append(one)
    return least_members(joined)


def cut_pairs(masks, number, cut):
    """Return the pairs of pieces that a contact or via joins; number is its place in masks."""
    lower = pieces_over(masks, number, cut, ("metal1",))
    return [(one, other) for one in lower
            for other in pieces_over(masks, number, cut, CONNECTED_LAYERS[cut[0]])]


def pieces_over(masks, number, cut, layers):
    """Return the pieces on some layers within which a contact or via lies."""
    return [b for b in masks.touching(number, layers) if lies_within(cut, masks.rectangles[b])]


def number_groups(leasts):
    """Return for each piece the number of its node, from the least piece of that node."""
    numbers = {least: number for number, least in enumerate(sorted(set(leasts)))}
    return [numbers[least] for least in leasts]
