"""Walks by steps: tuples of things, each of them taken behind the place come to so far."""

from groupwalks.groups import all_things, are_numbers_below, undone
from groupwalks.parts import span


def places(group, walk):
    come_to = [0]
    for thing in walk:
        come_to.append(group[come_to[-1]][thing])
    return tuple(come_to)


def are_all_things(group, come_to):
    # This settles the length of the walk as well.
    return tuple(sorted(come_to)) == all_things(group)


def comes_round(group, walk):
    come_to = places(group, walk)
    return come_to[-1] == 0 and are_all_things(group, come_to[:-1])


def goes_through(group, thing):
    return are_numbers_below(thing, len(group)) and are_all_things(group, places(group, thing))


def is_walk_by(group, steps, thing):
    # The kind is looked at first: True would be found among steps that have 1.
    return are_numbers_below(thing, len(group)) and all([step in steps for step in thing])


def is_way(group, steps, thing):
    return is_walk_by(group, steps, thing) and goes_through(group, thing)


def is_round(group, steps, thing):
    return is_walk_by(group, steps, thing) and len(thing) >= 2 and comes_round(group, thing)


def all_walks(steps, many):
    found = [()]
    while len(found[0]) < many:
        longer = []
        for walk in found:
            longer.extend([walk + (step,) for step in steps])
        found = longer
    return found


def reaches(group, steps):
    return len(span(group, steps)) == len(group)


def begun_at(walk, k):
    return walk[k:] + walk[:k]


def back(group, walk):
    return tuple([undone(group, thing) for thing in reversed(walk)])


def threaded(group, begin, steps, piece):
    turns = (back(group, piece), piece)
    walk = begin
    for k, step in enumerate(steps):
        walk = walk + (step,) + turns[k % 2]
    return walk


def undone_steps(group, steps):
    return tuple(sorted([undone(group, step) for step in steps]))
