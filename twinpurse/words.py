"""Words in texts that tell integers."""

MOST_DIGITS = 60


def read_number(word):
    """Return the integer that a word tells, or None for other words."""
    digits = word[1:] if word.startswith("-") else word
    # There are digits beyond those of ASCII, and Python reads them, too.
    if not digits.isascii() or not digits.isdigit() or len(digits) > MOST_DIGITS:
        return None
    number = int(word)
    return number if str(number) == word else None


def numbers_in(words):
    """Return the tuple of what words tell, with None for those that tell no integer."""
    return tuple([read_number(word) for word in words])
