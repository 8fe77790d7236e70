"""Words: names, numbers, and how texts are made of them."""

RESERVED = ("game", "piece", "turn", "count", "is", "not", "above", "below", "least", "most", "rest", "from", "to",
            "of", "for", "first", "second", "when", "then", "more", "less", "again", "goal", "part", "use", "end", "at",
            "wins", "safe", "inside", "never", "like")
LETTERS = "abcdefghijklmnopqrstuvwxyz"
DIGITS = "0123456789"
MOST_DIGITS = 60
MOST_SIGNS = 12
MOST_INTEGER = 30


def number_of(word):
    """The integer that a word tells just as Python writes it, with at most 60 digits; None if it tells none."""
    digits = word[1:] if word[:1] == "-" else word
    if len(digits) == 0 or len(digits) > MOST_DIGITS or not all([digit in DIGITS for digit in digits]):
        return None
    if digits[0] == "0" and word != "0":
        return None
    return int(word)


def integer_of(word):
    """The INTEGER, from -30 to 30, that a word tells; None if it tells none."""
    number = number_of(word)
    if number is None or abs(number) > MOST_INTEGER:
        return None
    return number


def is_name(value):
    """Whether the value is a NAME of the language."""
    if not isinstance(value, str) or len(value) == 0 or len(value) > MOST_SIGNS or value in RESERVED:
        return False
    return value[0] in LETTERS and all([sign in LETTERS or sign in DIGITS for sign in value])


def words_of(text):
    """The words of a text between which spaces stand."""
    return [word for word in text.split(" ") if word]


def lines_of(text):
    """The lines of a text; a line feed at its end begins none."""
    lines = text.split("\n")
    return lines[:-1] if lines[-1] == "" else lines
