"""Journals of a desk: their sums, what of them counts, and desks that do them again."""

from anylead.checks import is_index
from anylead.deeds import MODULUS, sum_behind, text_of
from anylead.desk import Desk, begin_stage, close_attempt
from anylead.errors import BadNumber, BadText, LeadError
from anylead.words import number_of


def mended(text):
    """The longest beginning of the text that consists of lines that count, with no attempt open."""
    return text[:_followed(text)[1]]


def replayed(text):
    """A Desk at which the lines that count have been done."""
    return _followed(text)[0]


def sum_of(deed, ahead):
    """The sum of a line, ahead being that of the line ahead."""
    if not isinstance(deed, str):
        raise BadText(0, 0)
    if not is_index(ahead, MODULUS):
        raise BadNumber("ahead", ahead)
    return sum_behind(deed, ahead)


def _followed(text):
    """The Desk at which the lines that count have been done, and how many characters of the text these have."""
    if not isinstance(text, str):
        raise BadText(0, 0)
    desk = Desk()
    stages = desk.stages
    ahead = 0
    read = 0
    mark = 0
    for line in text.split("\n")[:-1]:
        deed, _, told = line.rpartition(" ")
        ahead = sum_behind(deed, ahead)
        if told != str(ahead) or not _is_done(desk, deed):
            break
        read += len(line) + 1
        if len(desk.stages) == 1:
            stages = desk.stages
            mark = read
    desk.stages = stages
    return desk, mark


def _is_done(desk, deed):
    """Does a deed, if it can be done; whether it is one, in just its form."""
    if deed == "begin":
        begin_stage(desk)
        return True
    deeds = desk.stages[-1].deeds
    try:
        if deed == "close" and len(desk.stages) > 1:
            close_attempt(desk)
            return True
        _do(desk, deed.split(" "))
    except LeadError:
        return False
    # The desk tells in its own form what has been done; what was no deed, or one in another form, isn't told so.
    return desk.stages[-1].deeds == deeds + (deed,)


def _do(desk, words):
    """Does the deed that has these words, if it is one."""
    word = words[0]
    if word == "undo":
        desk.undo()
    elif word == "redo":
        desk.redo()
    elif word == "drop" and len(words) > 1:
        desk.drop(words[1])
    elif word == "rename" and len(words) > 2:
        desk.rename(words[1], words[2])
    elif word == "put" and len(words) > 2:
        desk.put(words[1], text_of(words[3:]))
    elif word == "edit" and len(words) > 3:
        desk.edit(words[1], number_of(words[2]), text_of(words[4:]))
    elif word == "keep":
        desk.keep(" ".join(words[2:]))
    elif word == "release":
        desk.release(" ".join(words[2:]))
