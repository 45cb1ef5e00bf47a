"""What holds of everything [1], and the names and arguments of the interface."""

import copy
import importlib
import inspect
import unittest

from groupwalks.groups import along, clock, flips, is_group, is_plain, named, order_of, put_together, undone
from groupwalks.walks import back, begun_at, is_round, is_way, places, reaches, undone_steps
from samples import swaps, turning, values_of_all_kinds

ARGUMENTS = {
    "groupwalks.groups": {
        "is_group": "thing", "along": "group things", "undone": "group thing", "order_of": "group thing",
        "is_plain": "group", "clock": "n", "flips": "n", "named": "group order", "put_together": "one other",
    },
    "groupwalks.walks": {
        "places": "group walk", "is_way": "group steps thing", "is_round": "group steps thing",
        "reaches": "group steps", "begun_at": "walk k", "back": "group walk", "undone_steps": "group steps",
    },
}


class Interface(unittest.TestCase):
    def test_names_and_arguments(self):
        for module, functions in ARGUMENTS.items():
            for name, arguments in functions.items():
                function = getattr(importlib.import_module(module), name)
                self.assertEqual(list(inspect.signature(function).parameters), arguments.split())

    def test_kinds(self):
        group = swaps(3)
        for number in (along(group, (1, 2)), undone(group, 3), order_of(group, 3)):
            self.assertIs(type(number), int)
        for made in (clock(3), flips(3), named(group, (0, 2, 1, 3, 4, 5)), put_together(group, turning(2))):
            self.assertIs(type(made), tuple)
            for row in made:
                self.assertIs(type(row), tuple)
                self.assertEqual({type(number) for number in row}, {int})
        for walk in (places(group, (1,)), begun_at((1, 2), 1), back(group, (1,)), undone_steps(group, (1, 3))):
            self.assertIs(type(walk), tuple)


class Point1WhatHoldsOfEverything(unittest.TestCase):
    def test_nothing_handed_in_is_changed(self):
        for thing in values_of_all_kinds():
            before = copy.deepcopy(thing)
            is_group(thing)
            is_way(turning(2), (1,), thing)
            is_round(turning(2), (1,), thing)
            self.assertEqual(repr(thing), repr(before))

    def test_nothing_handed_in_is_kept(self):
        row = [0]
        self.assertIs(is_group((row,)), False)
        row.append(1)
        self.assertIs(is_group((row,)), False)
        self.assertIs(is_group(((0,),)), True)
        walk = [1]
        self.assertIs(is_way(turning(2), (1,), walk), False)
        walk.append(1)
        self.assertIs(is_round(turning(2), (1,), walk), False)
        self.assertIs(is_way(turning(2), (1,), (1,)), True)

    def test_asked_the_same_again_the_same_is_told(self):
        group, steps, walk = swaps(3), (1, 3), (1, 3, 3, 1, 5)

        def told():
            return [
                is_group(group), along(group, walk), undone(group, 3), order_of(group, 3), is_plain(group), clock(7),
                flips(4), named(group, (0, 2, 1, 5, 4, 3)), put_together(group, turning(3)), places(group, walk),
                is_way(group, steps, walk), is_round(group, steps, walk), reaches(group, steps), begun_at(walk, 2),
                back(group, walk), undone_steps(group, steps),
            ]

        first = told()
        self.assertEqual(told(), first)
        self.assertEqual((group, steps, walk), (swaps(3), (1, 3), (1, 3, 3, 1, 5)))
