"""Which rectangles of a list are near to each other."""

from gatesread.rectangles import distance, surrounds, touches


class Neighbours:
    """A list of rectangles, and for each one those at a distance of at most reach.

    The numbers of rectangles that a method returns are in ascending order.
    """

    def __init__(self, rectangles, reach):
        self.rectangles = list(rectangles)
        self._near = near_numbers(self.rectangles, reach)

    def numbers_on(self, layers):
        """Return the list of the numbers of the rectangles on some layers."""
        return [a for a, rectangle in enumerate(self.rectangles) if rectangle[0] in layers]

    def near(self, a, layers, reach):
        """Return the rectangles on some layers at a distance of at most reach from a."""
        return [b for b in self._on_layers(a, layers)
                if distance(self.rectangles[a], self.rectangles[b]) <= reach]

    def touching(self, a, layers):
        """Return the rectangles on some layers that touch a."""
        return [b for b in self._on_layers(a, layers)
                if touches(self.rectangles[a], self.rectangles[b])]

    def surrounding(self, a, layers):
        """Return the rectangles on some layers that surround a."""
        return [b for b in self._on_layers(a, layers)
                if surrounds(self.rectangles[b], self.rectangles[a])]

    def _on_layers(self, a, layers):
        """Return the near rectangles on some layers."""
        return [b for b in self._near[a] if self.rectangles[b][0] in layers]


def near_numbers(rectangles, reach):
    """Return for each rectangle the ascending list of the others at a distance of at most reach.

    The rectangles are taken from left to right, so that each has to be compared only with those
    that begin before it and have not ended too far to the left of it.
    """
    near = [[] for _ in rectangles]
    begun = []
    lefts = [(rectangle[1], number) for number, rectangle in enumerate(rectangles)]
    for left, number in sorted(lefts):
        low = rectangles[number][2] - reach
        high = rectangles[number][4] + reach
        begun = [other for other in begun if rectangles[other][3] >= left - reach]
        found = [other for other in begun
                 if rectangles[other][2] <= high and rectangles[other][4] >= low]
        for other in found:
            near[other].append(number)
        near[number] = found
        begun.append(number)
    return [sorted(numbers) for numbers in near]
