"""Snakes: walks to and fro through all that steps come to in a plain group."""

from groupwalks.errors import NotPlain
from groupwalks.groups import is_plain, undone
from groupwalks.walks import places, threaded


def refuse_not_plain(group):
    if not is_plain(group):
        raise NotPlain("in the group not always i times j is j times i")


def taken_to_meet(group, step, come_to):
    place = step
    taken = 1
    while place not in come_to:
        place = group[place][step]
        taken += 1
    return taken


def snake(group, steps):
    refuse_not_plain(group)
    so_far = ()
    for step in steps:
        taken = taken_to_meet(group, step, places(group, so_far))
        so_far = threaded(group, so_far, (step,) * (taken - 1), so_far)
    return so_far


def home(group, steps):
    last = places(group, snake(group, steps))[-1]
    # The places are unlike: a snake that has things doesn't end at 0.
    if last == 0:
        return None
    thing = undone(group, last)
    return thing if thing in steps or last in steps else None
