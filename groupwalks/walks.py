"""Walks by steps: tuples of things, each of them taken behind the place come to so far."""

from groupwalks.groups import are_numbers_below, undone


def places(group, walk):
    come_to = [0]
    for thing in walk:
        come_to.append(group[come_to[-1]][thing])
    return tuple(come_to)


def is_walk_by(group, steps, thing):
    # The kind is looked at first: True would be found among steps that have 1.
    return are_numbers_below(thing, len(group)) and all([step in steps for step in thing])


def are_all_things(group, come_to):
    # This settles the length of the walk as well.
    return sorted(come_to) == list(range(len(group)))


def is_way(group, steps, thing):
    return is_walk_by(group, steps, thing) and are_all_things(group, places(group, thing))


def is_round(group, steps, thing):
    if not is_walk_by(group, steps, thing) or len(thing) < 2:
        return False
    come_to = places(group, thing)
    return come_to[-1] == 0 and are_all_things(group, come_to[:-1])


def reaches(group, steps):
    reached = {0: True}
    waiting = [0]
    while len(waiting) > 0:
        place = waiting.pop()
        for step in steps:
            onward = group[place][step]
            if onward not in reached:
                reached[onward] = True
                waiting.append(onward)
    return len(reached) == len(group)


def begun_at(walk, k):
    return walk[k:] + walk[:k]


def back(group, walk):
    return tuple([undone(group, thing) for thing in reversed(walk)])


def undone_steps(group, steps):
    return tuple(sorted([undone(group, step) for step in steps]))
