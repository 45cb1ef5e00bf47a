"""Notes: groups and walks written as texts, and read of just such texts."""

from groupwalks.errors import BadNote
from groupwalks.groups import MOST_THINGS, are_numbers_below, is_group

FIGURES = "0123456789"
MOST_FIGURES = 2
LONGEST_WALK = 60


def numbers_text(numbers):
    return " ".join([str(number) for number in numbers])


def group_text(group):
    return "/".join([numbers_text(row) for row in group])


def walk_text(walk):
    return numbers_text(walk) if len(walk) > 0 else "none"


def refuse_no_text(thing):
    if not isinstance(thing, str):
        raise BadNote("this is no text")


def is_number(word):
    if not 1 <= len(word) <= MOST_FIGURES or not all([sign in FIGURES for sign in word]):
        return False
    return word == "0" or word[0] != "0"


def number_read(word):
    if not is_number(word):
        raise BadNote(f"{word!r} is no number of one or two figures")
    return int(word)


def numbers_read(text):
    return tuple([number_read(word) for word in text.split(" ")])


def group_read(text):
    refuse_no_text(text)
    group = tuple([numbers_read(row) for row in text.split("/")])
    if not is_group(group):
        raise BadNote("these rows are no group")
    return group


def walk_read(text):
    refuse_no_text(text)
    if text == "none":
        return ()
    walk = numbers_read(text)
    if len(walk) > LONGEST_WALK or not are_numbers_below(walk, MOST_THINGS):
        raise BadNote("the walk is too long, or has a number beyond all groups")
    return walk
