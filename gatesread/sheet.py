"""Writing masks as a text, and reading them (points 35 and 43)."""

from gatesread.errors import InvalidSheet

LAYERS = ("ndiff", "pdiff", "poly", "contact", "metal1", "via", "metal2", "latch")
LABEL_KINDS = ("ground", "power", "input", "output", "latch")
MOST_DIGITS = 9


def write_sheet(rectangles, labels):
    """Return the sheet of masks."""
    lines = [write_line(rectangle) for rectangle in rectangles]
    for label in labels:
        lines.append(write_line(("label", *label)))
    return "".join(lines)


def write_line(words):
    """Return the line of some words and integers."""
    return " ".join([str(word) for word in words]) + "\n"


def read_sheet(text):
    """Return the pair of the list of rectangles and the list of labels of a sheet."""
    rectangles = []
    labels = []
    lines = text.split("\n")
    rest = lines.pop()
    for index, line in enumerate(lines):
        if not take_line(line.split(" "), rectangles, labels):
            raise InvalidSheet(index + 1)
    if rest != "":
        raise InvalidSheet(len(lines) + 1)
    return rectangles, labels


def take_line(words, rectangles, labels):
    """Add what the words of a line tell; return False if the line cannot stand here."""
    if len(words) != 5:
        return False
    if words[0] == "label":
        return take_label(words, labels)
    # No rectangle stands behind a label.
    return not labels and take_rectangle(words, rectangles)


def take_rectangle(words, rectangles):
    """Add the rectangle of a line; return False if it is none."""
    if words[0] not in LAYERS or not are_integers(words[1:]):
        return False
    left, bottom, right, top = [int(word) for word in words[1:]]
    if left >= right or bottom >= top:
        return False
    rectangles.append((words[0], left, bottom, right, top))
    return True


def take_label(words, labels):
    """Add the label of a line; return False if it is none, or cannot stand behind the others."""
    kind = words[1]
    if kind not in LABEL_KINDS or not are_integers(words[2:]):
        return False
    number, x, y = [int(word) for word in words[2:]]
    if number < 0 or (kind in ("ground", "power") and number != 0):
        return False
    if (kind, number) in [label[:2] for label in labels]:
        return False
    labels.append((kind, number, x, y))
    return True


def are_integers(words):
    """Return True if all words are integers in the form of point 43, otherwise False."""
    return all([is_integer(word) for word in words])


def is_integer(word):
    """Return True if a word is an integer in the form of point 43, otherwise False."""
    digits = word.removeprefix("-")
    if not digits.isdigit() or len(digits) > MOST_DIGITS:
        return False
    return word == "0" or digits[0] != "0"
