"""A desk that keeps groups by names, is told lines and answers them."""

from groupwalks.errors import BadNote, NoName
from groupwalks.found import least_round, least_way, rounds_many, ways_many
from groupwalks.groups import (MOST_THINGS, along, are_numbers_below, clock, flips, is_plain, order_of, put_together,
                               undone)
from groupwalks.notes import group_read, group_text, number_read, walk_read, walk_text
from groupwalks.pairs import all_rounds_of_two, is_barred
from groupwalks.parts import span
from groupwalks.snakes import home, snake
from groupwalks.walks import is_round, is_way

LETTERS = "abcdefghijklmnopqrstuvwxyz"
MOST_LETTERS = 8
MOST_STEPS = 5


def refuse_unless(holds):
    if not holds:
        raise BadNote("this is no line that the desk can answer")


def name_read(word):
    refuse_unless(1 <= len(word) <= MOST_LETTERS and all([sign in LETTERS for sign in word]))
    return word


def group_kept(kept, name):
    if name not in kept:
        raise NoName(f"no group is kept by the name {name}")
    return kept[name]


def size_read(word, most):
    size = number_read(word)
    refuse_unless(1 <= size <= most)
    return size


def made_of_text(kept, words):
    refuse_unless(len(words) > 2)
    return (name_read(words[1]), group_read(" ".join(words[2:])))


def made_clock(kept, words):
    refuse_unless(len(words) == 3)
    return (name_read(words[1]), clock(size_read(words[2], MOST_THINGS)))


def made_flips(kept, words):
    refuse_unless(len(words) == 3)
    return (name_read(words[1]), flips(size_read(words[2], MOST_THINGS // 2)))


def made_both(kept, words):
    refuse_unless(len(words) == 4)
    names = [name_read(word) for word in words[1:]]
    return (names[2], put_together(group_kept(kept, names[0]), group_kept(kept, names[1])))


def yes_or_no(holds):
    return "yes" if holds else "no"


def walk_or_none(walk):
    return walk_text(() if walk is None else walk)


def told_text(group, things):
    return group_text(group)


def told_plain(group, things):
    return yes_or_no(is_plain(group))


def told_order(group, things):
    return str(order_of(group, things[0]))


def told_undone(group, things):
    return str(undone(group, things[0]))


def told_along(group, things):
    return str(along(group, things))


def told_span(group, things):
    return walk_text(span(group, things))


def told_way(group, steps):
    return walk_or_none(least_way(group, steps))


def told_round(group, steps):
    return walk_or_none(least_round(group, steps))


def told_ways(group, steps):
    return str(ways_many(group, steps))


def told_rounds(group, steps):
    return str(rounds_many(group, steps))


def told_snake(group, steps):
    return walk_text(snake(group, steps))


def told_home(group, steps):
    thing = home(group, steps)
    return "none" if thing is None else str(thing)


def told_two(group, steps):
    return str(len(all_rounds_of_two(group, steps)))


def told_barred(group, steps):
    return yes_or_no(is_barred(group, steps))


MADE = {"group": made_of_text, "clock": made_clock, "flips": made_flips, "both": made_both}
TOLD = {
    "show": told_text, "plain": told_plain, "order": told_order, "undone": told_undone, "along": told_along,
    "span": told_span, "way": told_way, "round": told_round, "ways": told_ways, "rounds": told_rounds,
    "snake": told_snake, "home": told_home, "two": told_two, "barred": told_barred,
}
COUNTS = {"show": 0, "plain": 0, "order": 1, "undone": 1, "two": 2, "barred": 2}
ONE_AT_LEAST = ("along", "span")
NOT_AS_STEPS = ("order", "undone", "along", "span")


def is_count_asked(word, many):
    if word in COUNTS:
        return many == COUNTS[word]
    return many > 0 or word not in ONE_AT_LEAST


def are_steps(things):
    return len(things) <= MOST_STEPS and 0 not in things and list(things) == sorted(set(things))


def told_of(kept, words, tell):
    # What the line itself breaks goes ahead of the name, and the name ahead of what its group breaks.
    refuse_unless(len(words) > 1)
    name = name_read(words[1])
    things = tuple([number_read(word) for word in words[2:]])
    refuse_unless(is_count_asked(words[0], len(things)))
    group = group_kept(kept, name)
    refuse_unless(are_numbers_below(things, len(group)))
    refuse_unless(words[0] in NOT_AS_STEPS or are_steps(things))
    return tell(group, things)


def kind_text(group, steps, walk):
    if is_way(group, steps, walk):
        return "way"
    return "round" if is_round(group, steps, walk) else "no"


def told_kind(kept, words):
    refuse_unless(":" in words)
    colon = words.index(":")
    walk = walk_read(" ".join(words[colon + 1:]))
    return told_of(kept, words[:colon], lambda group, steps: kind_text(group, steps, walk))


class Desk:
    def __init__(self):
        self.kept = {}

    def say(self, line):
        refuse_unless(isinstance(line, str))
        words = line.split(" ")
        if words[0] in MADE:
            made = MADE[words[0]](self.kept, words)
            self.kept[made[0]] = made[1]
            return "ok"
        if words[0] in TOLD:
            return told_of(self.kept, words, TOLD[words[0]])
        if words[0] == "kind":
            return told_kind(self.kept, words)
        refuse_unless(words == ["groups"])
        return " ".join(sorted(self.kept))
