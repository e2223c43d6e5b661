"""Splitting a text into tokens (point 3)."""

LETTERS = "abcdefghijklmnopqrstuvwxyz"
DIGITS = "0123456789"
LONGEST_WORD = 8


def split_tokens(text):
    """Return the list of tokens as pairs of place and token."""
    tokens = []
    place = 0
    while place < len(text):
        end = token_end(text, place)
        if text[place] not in " \n":
            tokens.append((place, text[place:end]))
        place = end
    return tokens


def token_end(text, place):
    """Return the place behind the run, or the one other character, that begins at a place."""
    end = place
    while end < len(text) and is_run_character(text[end]):
        end += 1
    return max(end, place + 1)


def is_run_character(character):
    """Return True for a lower-case letter and a digit, otherwise False."""
    return character in LETTERS or character in DIGITS


def is_good(token):
    """Return True if a token is good, otherwise False."""
    if token in ("=", ";"):
        return True
    return token[0] in LETTERS and len(token) <= LONGEST_WORD
