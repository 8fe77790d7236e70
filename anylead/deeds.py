"""Deeds of a desk, as the lines of its journal tell them."""

from anylead.words import lines_of, words_of

MODULUS = 9973
FACTOR = 31


def deed_of(words, body):
    """The deed that begins with these words, with what stands behind the colon."""
    return " ".join(words + [":"] + ([body] if body else []))


def plain_words(text):
    """The words of a text with single spaces."""
    return " ".join(words_of(text))


def body_of(text):
    """The words of the lines of a text that have words, with `;` for each line feed between them."""
    lines = [plain_words(line) for line in lines_of(text)]
    return " ; ".join([line for line in lines if line])


def text_of(words):
    """The text whose body has these words."""
    lines = [[]]
    for word in words:
        if word == ";":
            lines.append([])
        else:
            lines[-1].append(word)
    return "\n".join([" ".join(line) for line in lines])


def sum_behind(deed, ahead):
    """The sum of a line, ahead being that of the line ahead."""
    total = FACTOR * ahead
    for at, sign in enumerate(deed, start=1):
        total += ord(sign) * at
    return total % MODULUS


def journal_of(deeds):
    """The text of a journal with these deeds."""
    lines = []
    ahead = 0
    for deed in deeds:
        ahead = sum_behind(deed, ahead)
        lines.append(f"{deed} {ahead}\n")
    return "".join(lines)
