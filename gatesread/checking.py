"""The layout rules (point 46)."""

from gatesread.neighbours import Neighbours, near_numbers
from gatesread.shapes import shape_numbers

LEAST_SIDES = {"ndiff": 4, "pdiff": 4, "poly": 2, "metal1": 3, "metal2": 4}
LEAST_DISTANCES = {
    "ndiff": 3,
    "pdiff": 3,
    "poly": 2,
    "contact": 2,
    "metal1": 3,
    "via": 3,
    "metal2": 3,
}
CUT_SIDE = 2
CUTS = ("contact", "via")
DIFFUSIONS = ("ndiff", "pdiff")
LONELY_LAYERS = ("ndiff", "pdiff", "contact", "via", "latch")
CONTACTED_LAYERS = ("poly", "ndiff", "pdiff")

# All these distances are the least ones that are allowed.
DIFFUSION_DISTANCE = 10
POLY_DISTANCE_IN_X = 2
CONTACT_TO_POLY = 2

POLY_BEYOND_DIFFUSION = 2
DIFFUSION_BEYOND_POLY = 3


def find_breaches(rectangles):
    """Return the list of the breaches of the rules."""
    masks = Neighbours(rectangles, DIFFUSION_DISTANCE - 1)
    shapes = shape_numbers(rectangles)
    breaches = [(1, a, None) for a in wrong_sizes(rectangles)]
    breaches += [(2, a, b) for a, b in close_pairs(masks, shapes)]
    breaches += [(3, a, None) for a in loose_cuts(masks)]
    breaches += [(4, a, b) for a, b in wrong_crossings(masks)]
    breaches += [(5, a, b) for a, b in crowding_polys(masks)]
    breaches += [(6, a, None) for a in wrong_latches(masks, shapes)]
    return breaches


def is_clean(rectangles):
    """Return True if there is no breach, otherwise False."""
    return not find_breaches(rectangles)


def wrong_sizes(rectangles):
    """Return the rectangles that break rule 1."""
    return [a for a, rectangle in enumerate(rectangles) if has_wrong_size(rectangle)]


def has_wrong_size(rectangle):
    """Return True if a rectangle is smaller than allowed, or is a contact or via of wrong size."""
    layer, left, bottom, right, top = rectangle
    width = right - left
    height = top - bottom
    if layer in CUTS:
        return width != CUT_SIDE or height != CUT_SIDE
    return min(width, height) < LEAST_SIDES.get(layer, 0)


def close_pairs(masks, shapes):
    """Return the ascending list of the pairs that break rule 2."""
    pairs = []
    for a, rectangle in enumerate(masks.rectangles):
        others = others_of_layer(masks, shapes, a)
        if rectangle[0] == "ndiff":
            others += masks.near(a, ("pdiff",), DIFFUSION_DISTANCE - 1)
        pairs += [(a, b) for b in sorted(others)]
    return pairs


def others_of_layer(masks, shapes, a):
    """Return the rectangles with a greater number that are too close to a, on its layer."""
    layer = masks.rectangles[a][0]
    if layer in LONELY_LAYERS:
        found = masks.touching(a, (layer,))
    else:
        found = []
    if layer in LEAST_DISTANCES:
        reach = LEAST_DISTANCES[layer] - 1
        found += [b for b in masks.near(a, (layer,), reach) if shapes[b] != shapes[a]]
    return [b for b in found if b > a]


def loose_cuts(masks):
    """Return the contacts and vias that break rule 3."""
    return [a for a in masks.numbers_on(CUTS) if is_loose(masks, a)]


def is_loose(masks, a):
    """Return True if a contact or via lacks a layer that surrounds it, or has one too many."""
    if not masks.surrounding(a, ("metal1",)):
        return True
    if masks.rectangles[a][0] == "via":
        return not masks.surrounding(a, ("metal2",))
    return len(masks.surrounding(a, CONTACTED_LAYERS)) != 1


def wrong_crossings(masks):
    """Return the pairs of a diffusion and a poly that break rule 4."""
    return [(a, b) for a in masks.numbers_on(DIFFUSIONS) for b in masks.near(a, ("poly",), 0)
            if not crosses(masks.rectangles[b], masks.rectangles[a])]


def crosses(poly, diffusion):
    """Return True if a poly crosses a diffusion as far on all sides as rule 4 demands."""
    return (poly[2] <= diffusion[2] - POLY_BEYOND_DIFFUSION
            and poly[4] >= diffusion[4] + POLY_BEYOND_DIFFUSION
            and diffusion[1] <= poly[1] - DIFFUSION_BEYOND_POLY
            and diffusion[3] >= poly[3] + DIFFUSION_BEYOND_POLY)


def crowding_polys(masks):
    """Return the ascending list of the pairs that break rule 5."""
    pairs = []
    for a, rectangle in enumerate(masks.rectangles):
        if rectangle[0] in DIFFUSIONS:
            others = close_in_x(masks, masks.touching(a, ("poly",)))
        elif rectangle[0] == "contact" and masks.surrounding(a, DIFFUSIONS):
            others = masks.near(a, ("poly",), CONTACT_TO_POLY - 1)
        else:
            others = []
        pairs += [(a, b) for b in others]
    return pairs


def close_in_x(masks, polys):
    """Return those of the polys that are too close in x to one with a lesser number."""
    # All are moved to the same height, so that only their distance in x counts.
    level = [("poly", masks.rectangles[b][1], 0, masks.rectangles[b][3], 1) for b in polys]
    near = near_numbers(level, POLY_DISTANCE_IN_X - 1)
    return [b for k, b in enumerate(polys) if near[k] and near[k][0] < k]


def wrong_latches(masks, shapes):
    """Return the latches that break rule 6."""
    return [a for a in masks.numbers_on(("latch",))
            if len(set([shapes[b] for b in masks.touching(a, ("metal2",))])) != 2]
