"""Integers in texts."""

MOST_DIGITS = 7


def read_integer(word, low, high):
    """Return the integer from low to high that a word writes in its one way, or None."""
    digits = word[1:] if word.startswith("-") else word
    if not digits.isascii() or not digits.isdigit() or len(digits) > MOST_DIGITS:
        return None
    value = int(word)
    # Leading zeros and -0 are written otherwise again.
    return value if str(value) == word and low <= value <= high else None
