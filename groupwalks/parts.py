"""Parts of a group: what things span, the sides of a part, and the rest group of a level one."""

from groupwalks.errors import NotLevel
from groupwalks.groups import all_things, are_numbers_below, table_of


def roads(group, things):
    found = {0: ()}
    waiting = [0]
    while len(waiting) > 0:
        place = waiting.pop()
        for thing in things:
            onward = group[place][thing]
            if onward not in found:
                found[onward] = found[place] + (thing,)
                waiting.append(onward)
    return found


def span(group, things):
    return tuple(sorted(roads(group, things)))


def is_part(group, thing):
    # What things span is the least part that has them: so a part, and nothing else, spans itself.
    return are_numbers_below(thing, len(group)) and span(group, thing) == thing


def pieces(rising, piece_at):
    found = []
    met = {}
    for least in rising:
        if least not in met:
            piece = piece_at(least)
            found.append(piece)
            for one in piece:
                met[one] = True
    return found


def left_sides(group, part):
    return pieces(all_things(group), lambda x: tuple(sorted([group[x][thing] for thing in part])))


def right_sides(group, part):
    return pieces(all_things(group), lambda x: tuple(sorted([group[thing][x] for thing in part])))


def is_level(group, part):
    return left_sides(group, part) == right_sides(group, part)


def side_numbers(group, part):
    numbers = {}
    for number, side in enumerate(left_sides(group, part)):
        for thing in side:
            numbers[thing] = number
    return numbers


def side_of(group, part, thing):
    return side_numbers(group, part)[thing]


def rest_group(group, part):
    if not is_level(group, part):
        raise NotLevel("the left sides of the part are not its right ones")
    leasts = [side[0] for side in left_sides(group, part)]
    numbers = side_numbers(group, part)
    # The part is level, so any thing of a side may stand for it.
    return table_of(len(leasts), lambda i, j: numbers[group[leasts[i]][leasts[j]]])
