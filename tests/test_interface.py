"""What holds of everything [1], and the names and arguments of the interface."""

import copy
import importlib
import inspect
import operator
import unittest

from groupwalks.desk import Desk
from groupwalks.errors import BadNote, NoLift, WalkError
from groupwalks.found import least_round, least_way, longest_walk, rounds_many, ways_many
from groupwalks.groups import along, clock, flips, is_group, is_plain, named, order_of, put_together, undone
from groupwalks.lifts import lifted, twisted, woven, woven_round
from groupwalks.maps import all_rounds, is_own_map, keeping_maps, led, own_maps, round_kinds
from groupwalks.notes import group_read, group_text, walk_read, walk_text
from groupwalks.pairs import all_rounds_of_two, is_barred, rings, sides, walk_of
from groupwalks.parts import is_level, is_part, left_sides, rest_group, right_sides, side_of, span
from groupwalks.snakes import home, snake
from groupwalks.walks import back, begun_at, is_round, is_way, places, reaches, undone_steps
from samples import swaps, turning, values_of_all_kinds

ARGUMENTS = {
    "groupwalks.groups": {
        "is_group": "thing", "along": "group things", "undone": "group thing", "order_of": "group thing",
        "is_plain": "group", "clock": "n", "flips": "n", "named": "group order", "put_together": "one other",
    },
    "groupwalks.parts": {
        "span": "group things", "is_part": "group thing", "left_sides": "group part", "right_sides": "group part",
        "is_level": "group part", "rest_group": "group part", "side_of": "group part thing",
    },
    "groupwalks.found": {
        "least_way": "group steps", "least_round": "group steps", "ways_many": "group steps",
        "rounds_many": "group steps", "longest_walk": "group steps",
    },
    "groupwalks.pairs": {
        "sides": "group steps", "rings": "group steps choice", "walk_of": "group steps choice",
        "all_rounds_of_two": "group steps", "is_barred": "group steps",
    },
    "groupwalks.lifts": {
        "lifted": "group part walk", "twisted": "n m r", "woven": "one way other other_way",
        "woven_round": "one way other other_way",
    },
    "groupwalks.snakes": {"snake": "group steps", "home": "group steps"},
    "groupwalks.maps": {
        "is_own_map": "group thing", "own_maps": "group", "keeping_maps": "group steps", "led": "own walk",
        "all_rounds": "group steps", "round_kinds": "group steps",
    },
    "groupwalks.notes": {"group_text": "group", "walk_text": "walk", "group_read": "text", "walk_read": "text"},
    "groupwalks.desk": {"Desk": "", "Desk.say": "self line"},
    "groupwalks.walks": {
        "places": "group walk", "is_way": "group steps thing", "is_round": "group steps thing",
        "reaches": "group steps", "begun_at": "walk k", "back": "group walk", "undone_steps": "group steps",
    },
}


def lists_told():
    return [
        left_sides(swaps(3), (0, 1)), right_sides(swaps(3), (0, 1)), sides(turning(6), (1, 4)),
        rings(turning(6), (1, 4), (0, 1, 0)), all_rounds_of_two(turning(6), (1, 4)), own_maps(turning(8)),
        keeping_maps(turning(8), (1, 3)), all_rounds(turning(6), (1, 4)), *round_kinds(turning(6), (1, 4)),
    ]


def all_lists(told):
    """All lists and dicts of what is told, however deep."""
    if isinstance(told, dict):
        return [told] + all_lists(list(told.values()))[1:]
    within = [one for part in told for one in all_lists(part)] if isinstance(told, (list, tuple)) else []
    return [told] + within if isinstance(told, list) else within


def refused(told, arguments, refusal=NoLift):
    try:
        told(*arguments)
    except WalkError as error:
        return isinstance(error, refusal)
    return False


class Interface(unittest.TestCase):
    def test_names_and_arguments(self):
        for module, functions in ARGUMENTS.items():
            for name, arguments in functions.items():
                function = operator.attrgetter(name)(importlib.import_module(module))
                self.assertEqual(list(inspect.signature(function).parameters), arguments.split())

    def test_kinds(self):
        group = swaps(3)
        for number in (along(group, (1, 2)), undone(group, 3), order_of(group, 3), side_of(group, (0, 1), 3),
                       ways_many(group, (1, 2)), rounds_many(group, (1, 2)), home(turning(6), (2, 3))):
            self.assertIs(type(number), int)
        for made in (clock(3), flips(3), named(group, (0, 2, 1, 3, 4, 5)), put_together(group, turning(2)),
                     rest_group(group, (0, 3, 4)), twisted(3, 2, 2), group_read("0 1/1 0")):
            self.assertIs(type(made), tuple)
            for row in made:
                self.assertIs(type(row), tuple)
                self.assertEqual({type(number) for number in row}, {int})
        for walk in (places(group, (1,)), begun_at((1, 2), 1), back(group, (1,)), undone_steps(group, (1, 3)),
                     span(group, (3, 1)), least_way(group, (1, 2)), least_round(group, (1, 2)),
                     longest_walk(group, (1, 2)), walk_of(group, (1, 2), (0, 1)), lifted(group, (0, 3, 4), (1, 2)),
                     woven(turning(2), (1,), turning(2), (1,)), woven_round(turning(2), (1,), turning(2), (1,)),
                     snake(turning(6), (2, 3)), led((0, 3, 2, 1), (1, 2)), walk_read("1 2")):
            self.assertIs(type(walk), tuple)
            self.assertEqual({type(number) for number in walk}, {int})
        for told in lists_told():
            self.assertIs(type(told), list)
            for one in told:
                self.assertIs(type(one), tuple)
                self.assertEqual({type(number) for number in one}, {int})
        self.assertIs(type(round_kinds(turning(6), (1, 4))), list)
        for text in (group_text(group), walk_text((1, 2)), walk_text(()), Desk().say("groups")):
            self.assertIs(type(text), str)

    def test_none_told_where_there_is_none(self):
        for told in (least_way(turning(2), ()), least_round(turning(2), ()), walk_of(turning(4), (1, 3), (0, 1)),
                     home(turning(2), ())):
            self.assertIsNone(told)


class Point1WhatHoldsOfEverything(unittest.TestCase):
    def test_nothing_handed_in_is_changed(self):
        for thing in values_of_all_kinds():
            before = copy.deepcopy(thing)
            is_group(thing)
            is_way(turning(2), (1,), thing)
            is_round(turning(2), (1,), thing)
            is_part(turning(2), thing)
            is_own_map(turning(2), thing)
            self.assertTrue(isinstance(thing, str) or refused(group_read, (thing,), BadNote))
            self.assertTrue(isinstance(thing, str) or refused(walk_read, (thing,), BadNote))
            self.assertTrue(refused(Desk().say, (thing,), BadNote))
            self.assertTrue(refused(lifted, (turning(6), (0, 3), thing)))
            self.assertTrue(refused(woven, (turning(3), thing, turning(4), thing)))
            self.assertTrue(refused(woven_round, (turning(4), thing, turning(3), thing)))
            self.assertEqual(repr(thing), repr(before))

    def test_nothing_handed_in_is_kept(self):
        row = [0]
        self.assertIs(is_group((row,)), False)
        row.append(1)
        self.assertIs(is_group((row,)), False)
        self.assertIs(is_group(((0,),)), True)
        walk = [1]
        self.assertIs(is_way(turning(2), (1,), walk), False)
        walk.append(1)
        self.assertIs(is_round(turning(2), (1,), walk), False)
        self.assertIs(is_way(turning(2), (1,), (1,)), True)

    def test_a_list_handed_in_for_a_part_or_a_way_is_not_kept(self):
        walk = [0]
        self.assertIs(is_part(turning(2), walk), False)
        self.assertTrue(refused(woven, (turning(1), (), turning(2), walk)))
        walk[0] = 1
        self.assertIs(is_part(turning(2), walk), False)
        self.assertTrue(refused(woven, (turning(1), (), turning(2), walk)))
        self.assertIs(is_part(turning(2), (0,)), True)

    def test_a_list_handed_in_for_an_own_map_or_a_line_is_not_kept(self):
        desk, thing = Desk(), [0]
        self.assertIs(is_own_map(turning(2), thing), False)
        self.assertTrue(refused(desk.say, (thing,), BadNote))
        thing.append(1)
        self.assertIs(is_own_map(turning(2), thing), False)
        self.assertTrue(refused(desk.say, (thing,), BadNote))
        self.assertIs(is_own_map(turning(2), (0, 1)), True)
        self.assertEqual(desk.say("groups"), "")

    def test_no_two_lists_told_are_one(self):
        for ask in (lists_told, lambda: round_kinds(turning(6), (1, 4)), lambda: round_kinds(turning(8), (1, 3, 5, 7))):
            found = all_lists([ask(), ask()])
            self.assertEqual(len({id(one) for one in found}), len(found))

    def test_kinds_of_rounds_are_the_askers_own(self):
        before = round_kinds(turning(6), (1, 4))
        told = round_kinds(turning(6), (1, 4))
        told[0].clear()
        told[1].append(None)
        self.assertEqual(round_kinds(turning(6), (1, 4)), before)
        all_rounds(turning(6), (1, 4)).clear()
        own_maps(turning(6)).clear()
        self.assertEqual(round_kinds(turning(6), (1, 4)), before)

    def test_lists_told_are_the_askers_own(self):
        before = lists_told()
        for told, again in zip(lists_told(), lists_told()):
            self.assertIsNot(told, again)
            told.clear()
            again.append(None)
        self.assertEqual(lists_told(), before)

    def test_asked_the_same_again_the_same_is_told(self):
        group, steps, walk = swaps(3), (1, 3), (1, 3, 3, 1, 5)

        def told():
            return [
                is_group(group), along(group, walk), undone(group, 3), order_of(group, 3), is_plain(group), clock(7),
                flips(4), named(group, (0, 2, 1, 5, 4, 3)), put_together(group, turning(3)), places(group, walk),
                is_way(group, steps, walk), is_round(group, steps, walk), reaches(group, steps), begun_at(walk, 2),
                back(group, walk), undone_steps(group, steps), span(group, walk), is_part(group, (0, 1)),
                is_level(group, (0, 1)), rest_group(group, (0, 3, 4)), side_of(group, (0, 1), 4),
                least_way(group, steps), least_round(group, steps), ways_many(group, steps), rounds_many(group, steps),
                longest_walk(group, steps), walk_of(group, steps, (0, 1, 0)), is_barred(group, steps),
                lifted(group, (0, 3, 4), (1, 2)), twisted(3, 4, 2), woven(turning(2), (1,), turning(3), (1, 1)),
                woven_round(turning(2), (1,), turning(3), (1, 1)), lists_told(), snake(turning(6), (2, 3)),
                home(turning(6), (2, 3)), is_own_map(group, (0, 1, 2, 3, 4, 5)), own_maps(group),
                keeping_maps(group, steps), led((0, 3, 2, 1, 4, 5), walk), all_rounds(group, steps),
                round_kinds(group, steps), group_text(group), walk_text(walk), group_read(group_text(group)),
                walk_read(walk_text(walk)), Desk().say("groups"),
            ]

        first = told()
        self.assertEqual(told(), first)
        self.assertEqual((group, steps, walk), (swaps(3), (1, 3), (1, 3, 3, 1, 5)))
