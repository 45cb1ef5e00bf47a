"""Own maps of a group, all rounds by steps, and the kinds into which own maps lay them."""

from groupwalks.found import MOST_TO_COUNT, MOST_TO_FIND, all_but_home, all_ends, refuse_more, step_home
from groupwalks.groups import all_things, along, are_numbers_below
from groupwalks.parts import pieces, roads, span
from groupwalks.walks import all_walks, are_all_things, begun_at


def leads_alike(group, own, i):
    return all([own[group[i][j]] == group[own[i]][own[j]] for j in range(len(group))])


def is_own_map(group, thing):
    if not are_numbers_below(thing, len(group)) or not are_all_things(group, thing):
        return False
    return all([leads_alike(group, thing, i) for i in range(len(group))])


def spanning_things(group):
    found = ()
    for thing in range(len(group)):
        if thing not in span(group, found):
            found = found + (thing,)
    return found


def led_along(group, ways, images):
    return tuple([along(group, [images[thing] for thing in ways[place]]) for place in range(len(group))])


def own_maps(group):
    refuse_more(group, MOST_TO_FIND)
    # Where the things that span a group are led settles where all others are.
    spanning = spanning_things(group)
    ways = roads(group, spanning)
    tried = all_walks(all_things(group), len(spanning))
    maps = [led_along(group, ways, dict(zip(spanning, images))) for images in tried]
    return sorted([own for own in maps if is_own_map(group, own)])


def led(own, walk):
    return tuple([own[thing] for thing in walk])


def keeping_maps(group, steps):
    return [own for own in own_maps(group) if sorted(led(own, steps)) == sorted(steps)]


def all_rounds(group, steps):
    refuse_more(group, MOST_TO_COUNT)
    # Steps are rising, so the rounds are found rising.
    return all_ends(group, steps, 0, all_but_home(group), step_home)


def kind_of(keeping, walk):
    found = []
    for own in keeping:
        there = led(own, walk)
        found.extend([begun_at(there, k) for k in range(len(there))])
    return sorted(set(found))


def round_kinds(group, steps):
    rounds = all_rounds(group, steps)
    keeping = keeping_maps(group, steps)
    return pieces(rounds, lambda walk: kind_of(keeping, walk))
