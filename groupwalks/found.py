"""Walks that are looked for: the least way and round, how many there are, and the longest walk."""

from groupwalks.errors import TooMany
from groupwalks.groups import undone

MOST_TO_FIND = 12
MOST_TO_COUNT = 8


def refuse_more(group, most):
    if len(group) > most:
        raise TooMany(f"the group has more than {most} things")


def all_but_home(group):
    return tuple(range(1, len(group)))


def all_but(things, thing):
    return tuple([other for other in things if other != thing])


def goings(group, steps, place, left):
    tried = [(step, group[place][step]) for step in steps]
    return [going for going in tried if going[1] in left]


def no_more(group, steps, place):
    return ()


def step_home(group, steps, place):
    step = undone(group, place)
    return (step,) if step in steps else None


def least_end(group, steps, place, left, last):
    if len(left) == 0:
        return last(group, steps, place)
    # Steps are rising, so the end that is found first is the least one.
    for step, onward in goings(group, steps, place, left):
        end = least_end(group, steps, onward, all_but(left, onward), last)
        if end is not None:
            return (step,) + end
    return None


def least_way(group, steps):
    refuse_more(group, MOST_TO_FIND)
    return least_end(group, steps, 0, all_but_home(group), no_more)


def least_round(group, steps):
    refuse_more(group, MOST_TO_FIND)
    return least_end(group, steps, 0, all_but_home(group), step_home)


def all_ends(group, steps, place, left, last):
    if len(left) == 0:
        end = last(group, steps, place)
        return [] if end is None else [end]
    found = []
    for step, onward in goings(group, steps, place, left):
        ends = all_ends(group, steps, onward, all_but(left, onward), last)
        found.extend([(step,) + end for end in ends])
    return found


def ways_many(group, steps):
    refuse_more(group, MOST_TO_COUNT)
    return len(all_ends(group, steps, 0, all_but_home(group), no_more))


def rounds_many(group, steps):
    refuse_more(group, MOST_TO_COUNT)
    return len(all_ends(group, steps, 0, all_but_home(group), step_home))


def longest_end(group, steps, place, left):
    longest = ()
    for step, onward in goings(group, steps, place, left):
        end = (step,) + longest_end(group, steps, onward, all_but(left, onward))
        # Of ends of one length the one that is found first is the least, here too.
        if len(end) > len(longest):
            longest = end
    return longest


def longest_walk(group, steps):
    refuse_more(group, MOST_TO_COUNT)
    return longest_end(group, steps, 0, all_but_home(group))
