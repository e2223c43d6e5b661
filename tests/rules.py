"""The rules of point 46 by their words, for tests: each pair of rectangles is looked at."""

from test_shapes import shapes_by_words


def span_gap(low, high, other_low, other_high):
    return max(0, low - other_high, other_low - high)


def gap_x(a, b):
    return span_gap(a[1], a[3], b[1], b[3])


def gap(a, b):
    return max(gap_x(a, b), span_gap(a[2], a[4], b[2], b[4]))


def touch(a, b):
    width = min(a[3], b[3]) - max(a[1], b[1])
    height = min(a[4], b[4]) - max(a[2], b[2])
    return width >= 0 and height >= 0 and (width, height) != (0, 0)


def around(outer, inner):
    return (inner[1] - outer[1] >= 1 and inner[2] - outer[2] >= 1
            and outer[3] - inner[3] >= 1 and outer[4] - inner[4] >= 1)


class Rules:
    def __init__(self, rectangles):
        self.all = list(enumerate(rectangles))
        self.shapes = shapes_by_words(rectangles)

    def on(self, *layers):
        return [(k, r) for k, r in self.all if r[0] in layers]

    def breaches(self):
        found = self.first() + self.second() + self.third()
        found += self.fourth() + self.fifth() + self.sixth()
        assert len(set(found)) == len(found)
        return sorted(found, key=lambda breach: (*breach[:2], -1 if breach[2] is None else breach[2]))

    def first(self):
        found = []
        for a, (layer, left, bottom, right, top) in self.all:
            wide, high = right - left, top - bottom
            if layer in ("contact", "via"):
                bad = (wide, high) != (2, 2)
            else:
                least = {"metal1": 3, "ndiff": 4, "pdiff": 4, "metal2": 4, "poly": 2, "latch": 0}[layer]
                bad = wide < least or high < least
            found += [(1, a, None)] * bad
        return found

    def second(self):
        found = {}
        for a, one in self.all:
            for b, other in self.all:
                if one[0] == other[0] and a < b:
                    apart = self.shapes[a] != self.shapes[b]
                    if one[0] in ("ndiff", "pdiff", "metal1", "metal2", "via"):
                        if apart and gap(one, other) < 3:
                            found[2, a, b] = True
                    if one[0] in ("poly", "contact") and apart and gap(one, other) < 2:
                        found[2, a, b] = True
                    if one[0] in ("ndiff", "pdiff", "contact", "via", "latch") and touch(one, other):
                        found[2, a, b] = True
                if (one[0], other[0]) == ("ndiff", "pdiff") and gap(one, other) < 10:
                    found[2, a, b] = True
        return list(found)

    def third(self):
        found = []
        for a, one in self.on("contact", "via"):
            bad = not [k for k, r in self.on("metal1") if around(r, one)]
            if one[0] == "contact":
                low = [k for k, r in self.on("poly", "ndiff", "pdiff") if around(r, one)]
                bad = bad or len(low) != 1
            else:
                bad = bad or not [k for k, r in self.on("metal2") if around(r, one)]
            found += [(3, a, None)] * bad
        return found

    def fourth(self):
        found = []
        for a, one in self.on("ndiff", "pdiff"):
            for b, other in self.on("poly"):
                ends = one[2] - other[2] >= 2 and other[4] - one[4] >= 2
                sides = other[1] - one[1] >= 3 and one[3] - other[3] >= 3
                if gap(one, other) < 1 and not (ends and sides):
                    found.append((4, a, b))
        return found

    def fifth(self):
        found = []
        for a, one in self.on("ndiff", "pdiff"):
            polys = [(k, r) for k, r in self.on("poly") if touch(one, r)]
            for b, other in polys:
                if [k for k, r in polys if k < b and gap_x(r, other) < 2]:
                    found.append((5, a, b))
        for a, one in self.on("contact"):
            if [k for k, r in self.on("ndiff", "pdiff") if around(r, one)]:
                found += [(5, a, b) for b, other in self.on("poly") if gap(one, other) < 2]
        return found

    def sixth(self):
        found = []
        for a, one in self.on("latch"):
            shapes = {self.shapes[k] for k, r in self.on("metal2") if touch(one, r)}
            if len(shapes) != 2:
                found.append((6, a, None))
        return found


def breaches_by_words(rectangles):
    return Rules(rectangles).breaches()
