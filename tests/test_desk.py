import unittest
from itertools import product

from groupwalks.desk import Desk
from groupwalks.errors import BadNote, NoName, NotPlain, TooMany, WalkError
from groupwalks.found import least_round, least_way, rounds_many, ways_many
from groupwalks.groups import along, clock, flips, is_plain, order_of, put_together, undone
from groupwalks.notes import group_text, walk_text
from groupwalks.pairs import all_rounds_of_two, is_barred
from groupwalks.parts import span
from groupwalks.snakes import home, snake
from samples import (grid, quaternions, rounds_by_trying, samples, spanned, steps_of, swaps, turning,
                     values_of_all_kinds, ways_by_trying)

ASKED_BY_STEPS = ("way", "round", "ways", "rounds", "snake", "home")
ASKED_BY_TWO = ("two", "barred")
# One right line for each kind of line, at the desk of filled_desk.
RIGHT_LINES = (
    "group n 0 1/1 0", "clock n 5", "flips n 3", "both two two n", "groups", "show six", "plain six", "order six 2",
    "undone six 2", "along six 2 3", "span six 2", "way six 1", "round six 1", "ways six 1 2", "rounds six 1 2",
    "snake six 2 3", "home six 2 3", "two six 1 4", "barred six 1 4", "kind six 1 : 1 1 1 1 1",
)


def desk_with(**groups):
    desk = Desk()
    for name, group in groups.items():
        desk.say(f"group {name} {group_text(group)}")
    return desk


def filled_desk():
    return desk_with(one=turning(1), two=turning(2), six=turning(6), swap=swaps(3), eight=turning(8), nine=turning(9),
                     twelve=turning(12), thirteen=turning(13), pairs=turning(22), most=turning(24), wild=swaps(4))


def all_kept(desk):
    return [(name, desk.say(f"show {name}")) for name in desk.say("groups").split(" ") if name]


def line_of(*words):
    return " ".join(map(str, words))


def yes_or_no(truth):
    return "yes" if truth else "no"


def no_names():
    return ["", "abcdefghi", "A", "Ab", "aB", "a1", "1", "0", "a_b", "a-b", "a.", ":", "a:", "a/b", "~",
            "\u00e4", "\u0430", "a\n", "\t", "abcdefghijklmnopqrstuvwxyz"]


def no_numbers():
    return ["", "01", "00", "100", "012", "-1", "+1", "1.", "1.0", "a", "one", "none", "1,", "1:", "\u0661",
            "\u00b2", "1\n", "999", "1000", "1/2", "0x1", "1_0"]


class DeskTest(unittest.TestCase):
    def assert_says(self, desk, line, answer):
        said = desk.say(line)
        self.assertIs(type(said), str)
        self.assertEqual(said, answer, line)

    def assert_refused(self, desk, line, refusal):
        before = all_kept(desk)
        with self.assertRaises(WalkError, msg=repr(line)) as caught:
            desk.say(line)
        self.assertIs(type(caught.exception), refusal, repr(line))
        self.assertEqual(all_kept(desk), before)


class Point91GroupsAreKept(DeskTest):
    def test_a_new_desk_keeps_none(self):
        self.assert_says(Desk(), "groups", "")

    def test_of_a_text(self):
        desk = Desk()
        for name, group in zip("abcdefghijklmnop", samples()):
            self.assert_says(desk, line_of("group", name, group_text(group)), "ok")
            self.assert_says(desk, line_of("show", name), group_text(group))
        self.assert_says(desk, "group x 0", "ok")
        self.assert_says(desk, "show x", "0")
        self.assert_says(desk, "group x 0 1/1 0", "ok")
        self.assert_says(desk, "show x", "0 1/1 0")

    def test_clocks_from_1_to_24(self):
        desk = Desk()
        for n in range(1, 25):
            self.assert_says(desk, f"clock a {n}", "ok")
            self.assert_says(desk, "show a", group_text(clock(n)))
        for n in (0, 25, 26, 99):
            self.assert_refused(desk, f"clock a {n}", BadNote)

    def test_flips_from_1_to_12(self):
        desk = Desk()
        for n in range(1, 13):
            self.assert_says(desk, f"flips a {n}", "ok")
            self.assert_says(desk, "show a", group_text(flips(n)))
        for n in (0, 13, 14, 24, 99):
            self.assert_refused(desk, f"flips a {n}", BadNote)

    def test_both_put_together(self):
        desk = desk_with(a=turning(2), b=swaps(3))
        self.assert_says(desk, "both a b c", "ok")
        self.assert_says(desk, "show c", group_text(put_together(turning(2), swaps(3))))
        self.assert_says(desk, "both b a d", "ok")
        self.assert_says(desk, "show d", group_text(put_together(swaps(3), turning(2))))
        self.assertNotEqual(desk.say("show c"), desk.say("show d"))
        self.assert_says(desk, "both a a a", "ok")
        self.assert_says(desk, "show a", group_text(grid(2, 2)))
        self.assert_says(desk, "both a b b", "ok")
        self.assert_says(desk, "show b", group_text(put_together(grid(2, 2), swaps(3))))
        self.assert_refused(desk, "both b a c", TooMany)

    def test_names_in_the_order_of_texts(self):
        desk = Desk()
        for name in ("b", "ab", "a", "ba", "zz", "aaaaaaaa", "groups", "clock", "none"):
            self.assert_says(desk, f"clock {name} 3", "ok")
        self.assert_says(desk, "groups", "a aaaaaaaa ab b ba clock groups none zz")

    def test_a_name_given_anew(self):
        desk = Desk()
        for line, group in (("clock a 3", turning(3)), ("flips a 2", flips(2)), ("group a 0 1/1 0", turning(2)),
                            ("clock a 1", turning(1)), ("both a a a", turning(1)), ("clock a 24", turning(24))):
            self.assert_says(desk, line, "ok")
            self.assert_says(desk, "show a", group_text(group))
            self.assert_says(desk, "groups", "a")

    def test_a_group_put_together_stays_when_another_takes_the_name_of_one(self):
        desk = desk_with(a=turning(2), b=turning(3))
        desk.say("both a b c")
        desk.say("clock a 5")
        self.assert_says(desk, "show c", group_text(grid(2, 3)))
        self.assert_says(desk, "show a", group_text(turning(5)))

    def test_names_of_1_to_8_small_letters(self):
        desk = desk_with(two=turning(2))
        for name in ("a", "z", "ab", "abcdefgh", "stuvwxyz", "ijklmnop", "qr", "groups", "kind"):
            for line in ("group {} 0 1/1 0", "clock {} 2", "flips {} 1", "both two two {}"):
                self.assert_says(desk, line.format(name), "ok")
            self.assert_says(desk, f"show {name}", group_text(grid(2, 2)))
            self.assert_says(desk, f"way {name} 1 2", "1 2 1")
        for name in no_names():
            for line in ("group {} 0 1/1 0", "clock {} 2", "flips {} 1", "both two two {}", "both two {} n",
                         "both {} two n", "show {}", "plain {}", "order {} 1", "undone {} 1", "along {} 1", "span {} 1",
                         "way {} 1", "round {} 1", "ways {} 1", "rounds {} 1", "snake {} 1", "home {} 1", "two {} 1 2",
                         "barred {} 1 2", "kind {} 1 : 1"):
                self.assert_refused(desk, line.format(name), BadNote)

    def test_two_desks_keep_each_their_own(self):
        one, other = Desk(), Desk()
        one.say("clock a 3")
        other.say("clock b 4")
        self.assert_says(one, "groups", "a")
        self.assert_says(other, "groups", "b")
        self.assert_refused(other, "show a", NoName)

    def test_asked_again_the_same_is_told(self):
        desk = filled_desk()
        for line in RIGHT_LINES[4:]:
            self.assert_says(desk, line, desk.say(line))


class Point91AnswersAboutThings(DeskTest):
    def test_show_and_plain(self):
        for group in samples():
            desk = desk_with(a=group)
            self.assert_says(desk, "show a", group_text(group))
            self.assert_says(desk, "plain a", yes_or_no(is_plain(group)))
        self.assert_says(desk_with(a=turning(6)), "plain a", "yes")
        self.assert_says(desk_with(a=swaps(3)), "plain a", "no")

    def test_order_and_undone(self):
        for group in samples():
            desk = desk_with(a=group)
            for thing in range(len(group)):
                self.assert_says(desk, f"order a {thing}", str(order_of(group, thing)))
                self.assert_says(desk, f"undone a {thing}", str(undone(group, thing)))
            for thing in (len(group), len(group) + 1, 24, 99):
                self.assert_refused(desk, f"order a {thing}", BadNote)
                self.assert_refused(desk, f"undone a {thing}", BadNote)
        desk = desk_with(a=turning(24))
        self.assert_says(desk, "order a 0", "1")
        self.assert_says(desk, "order a 23", "24")
        self.assert_says(desk, "undone a 0", "0")
        self.assert_says(desk, "undone a 7", "17")

    def test_along_and_span(self):
        for group in (turning(1), turning(2), turning(12), swaps(3), quaternions(), swaps(4)):
            desk = desk_with(a=group)
            top = len(group) - 1
            for things in ((0,), (0, 0), (top,), (top, 0, top), (top, top), (top // 2, top), (top, top // 2),
                           (top,) * 60):
                self.assert_says(desk, line_of("along a", *things), str(along(group, things)))
                self.assert_says(desk, line_of("span a", *things), walk_text(spanned(group, things)))
                self.assertEqual(spanned(group, things), span(group, things))

    def test_along_and_span_ask_for_no_steps(self):
        desk = desk_with(a=turning(12), b=swaps(3))
        self.assert_says(desk, "along a 0", "0")
        self.assert_says(desk, "along a 5 4 3 2 1 1", "4")
        self.assert_says(desk, "along b 1 2", str(swaps(3)[1][2]))
        self.assert_says(desk, "along b 2 1", str(swaps(3)[2][1]))
        self.assert_says(desk, "along a 11 11 11", "9")
        self.assert_says(desk, "span a 0", "0")
        self.assert_says(desk, "span a 8 6", "0 2 4 6 8 10")
        self.assert_says(desk, "span a 6 6 0", "0 6")
        self.assert_says(desk, "span a 9 8 7 6 5 4 3", "0 1 2 3 4 5 6 7 8 9 10 11")

    def test_along_and_span_ask_for_one_number_at_least(self):
        desk = desk_with(a=turning(12))
        for word in ("along", "span"):
            self.assert_refused(desk, f"{word} a", BadNote)
            self.assert_refused(desk, f"{word} a ", BadNote)
            self.assert_refused(desk, f"{word} a 12", BadNote)
            self.assert_refused(desk, f"{word} a 0 12", BadNote)


class Point91AnswersAboutWalks(DeskTest):
    def test_small_groups_by_all_steps(self):
        for group in (turning(1), turning(2), turning(4), grid(2, 2), turning(5), swaps(3)):
            desk = desk_with(a=group)
            for steps in steps_of(group, 3):
                ways, rounds = ways_by_trying(group, steps), rounds_by_trying(group, steps)
                self.assert_says(desk, line_of("way a", *steps), walk_text(ways[0]) if ways else "none")
                self.assert_says(desk, line_of("round a", *steps), walk_text(rounds[0]) if rounds else "none")
                self.assert_says(desk, line_of("ways a", *steps), str(len(ways)))
                self.assert_says(desk, line_of("rounds a", *steps), str(len(rounds)))

    def test_the_same_as_found_tells(self):
        for group in (turning(8), grid(2, 4), quaternions(), turning(12), grid(2, 6)):
            desk = desk_with(a=group)
            for steps in ((), (1,), (2, 3), (1, 4), (2, 5, 6), (1, 2, 3, 4), (1, 3, 4, 5, 7)):
                self.assert_says(desk, line_of("way a", *steps), walk_text(least_way(group, steps) or ()))
                self.assert_says(desk, line_of("round a", *steps), walk_text(least_round(group, steps) or ()))
                if len(group) <= 8:
                    self.assert_says(desk, line_of("ways a", *steps), str(ways_many(group, steps)))
                    self.assert_says(desk, line_of("rounds a", *steps), str(rounds_many(group, steps)))

    def test_none_for_no_walk_and_for_one_of_no_things(self):
        desk = filled_desk()
        self.assert_says(desk, "way one", "none")
        self.assert_says(desk, "round one", "none")
        self.assert_says(desk, "ways one", "1")
        self.assert_says(desk, "rounds one", "0")
        self.assert_says(desk, "way six", "none")
        self.assert_says(desk, "way six 2 4", "none")
        self.assert_says(desk, "way six 2 3", "2 2 3 2 2")
        self.assert_says(desk, "round six 2 3", "none")
        self.assert_says(desk, "round six 1", "1 1 1 1 1 1")

    def test_snakes(self):
        for group in (turning(1), turning(2), turning(6), grid(2, 2, 2), turning(9), turning(24)):
            desk = desk_with(a=group)
            for steps in steps_of(group, 2):
                thing = home(group, steps)
                self.assert_says(desk, line_of("snake a", *steps), walk_text(snake(group, steps)))
                self.assert_says(desk, line_of("home a", *steps), "none" if thing is None else str(thing))
        desk = filled_desk()
        self.assert_says(desk, "snake one", "none")
        self.assert_says(desk, "home one", "none")
        self.assert_says(desk, "snake six 2 3", "2 2 3 4 4")
        self.assert_says(desk, "home six 2 3", "3")
        self.assert_says(desk, "home eight 2 3", "5")
        self.assert_says(desk, "home six 3 4", "none")
        self.assert_says(desk, "snake six", "none")

    def test_two_steps(self):
        for group in (turning(3), turning(6), turning(8), swaps(3), quaternions(), turning(12)):
            desk = desk_with(a=group)
            for steps in [steps for steps in steps_of(group, 2) if len(steps) == 2]:
                self.assert_says(desk, line_of("two a", *steps), str(len(all_rounds_of_two(group, steps))))
                self.assert_says(desk, line_of("barred a", *steps), yes_or_no(is_barred(group, steps)))
        desk = filled_desk()
        self.assert_says(desk, "two six 1 4", "4")
        self.assert_says(desk, "two six 2 4", "0")
        self.assert_says(desk, "barred six 2 4", "yes")
        self.assert_says(desk, "barred six 1 4", "no")
        self.assert_says(desk, "two most 1 3", str(len(all_rounds_of_two(turning(24), (1, 3)))))

    def test_kinds_of_walks(self):
        for group in (turning(2), turning(3), turning(4), grid(2, 2)):
            desk = desk_with(a=group)
            for steps in steps_of(group, 3):
                ways, rounds = ways_by_trying(group, steps), rounds_by_trying(group, steps)
                for many in range(len(group) + 2):
                    for walk in product(range(len(group) + 1), repeat=many):
                        right = "way" if walk in ways else "round" if walk in rounds else "no"
                        self.assert_says(desk, line_of("kind a", *steps, ":", walk_text(walk)), right)

    def test_kinds_by_hand(self):
        desk = filled_desk()
        for line, answer in (("kind one : none", "way"), ("kind one : 0", "no"), ("kind two 1 : none", "no"),
                             ("kind two 1 : 1", "way"), ("kind two 1 : 1 1", "round"), ("kind two : 1 1", "no"),
                             ("kind six 1 : 1 1 1 1 1", "way"), ("kind six 1 : 1 1 1 1 1 1", "round"),
                             ("kind six 5 : 1 1 1 1 1", "no"), ("kind six 2 3 : 2 2 3 2 2", "way"),
                             ("kind six 2 3 : 2 2 3 4 4", "no"), ("kind six 2 3 4 : 2 2 3 4 4 3", "round"),
                             ("kind six 1 : 23", "no"), ("kind six 1 : 6", "no"), ("kind six : none", "no")):
            self.assert_says(desk, line, answer)
        self.assert_says(desk, line_of("kind six 1 :", *[1] * 60), "no")
        self.assert_says(desk, line_of("kind most 1 :", *[1] * 23), "way")
        self.assert_says(desk, line_of("kind most 1 :", *[1] * 24), "round")


class Point92Lines(DeskTest):
    def test_the_right_lines_are_answered(self):
        desk = filled_desk()
        for line in RIGHT_LINES:
            self.assertIs(type(desk.say(line)), str)

    def test_what_is_no_text(self):
        desk = filled_desk()
        lines_within = [["groups"], ("groups",), {"groups": "groups"}, ["show", "six"], ("show six",)]
        for thing in values_of_all_kinds() + lines_within:
            self.assert_refused(desk, thing, BadNote)

    def test_other_words(self):
        desk = filled_desk()
        for line in ("", " ", "  ", "group", "Groups", "GROUPS", "names", "six", "clocks n 3", "flip n 3", "shows six",
                     "show", "Plain six", "orders six 1", "walk six 1", "kinds six 1 : 1", ":", "none", "help", "~",
                     "least six 1", "places six 1", "rest six 1", "groups\n", "groups groups", "twos six 1 4",
                     "say groups"):
            self.assert_refused(desk, line, BadNote)

    def test_another_count_of_words(self):
        desk = filled_desk()
        for line in ("group", "group n", "group n ", "clock", "clock n", "clock n 3 3", "clock 3", "flips", "flips n",
                     "flips n 3 3", "both", "both two", "both two two", "both two two n n", "groups n", "show",
                     "show six six", "show six 1", "plain", "plain six 1", "plain six six", "order", "order six",
                     "order six 1 1", "undone", "undone six", "undone six 1 2", "along", "along six", "span",
                     "span six", "way", "round", "ways", "rounds", "snake", "home", "two", "two six", "two six 1",
                     "two six 1 2 3", "barred", "barred six", "barred six 1", "barred six 1 2 3", "kind", "kind six",
                     "kind six 1", "kind six 1 :", "kind six :", "kind : 1", "kind six 1 1", "kind :", "kind six 1 : 1 :",
                     "kind six 1 : : 1", "kind six : 1 : 1", "kind six: 1", "kind six 1: 1", "kind six 1 :1"):
            self.assert_refused(desk, line, BadNote)

    def test_blanks_anywhere(self):
        for line in RIGHT_LINES:
            desk = filled_desk()
            self.assert_refused(desk, " " + line, BadNote)
            self.assert_refused(desk, line + " ", BadNote)
            self.assert_refused(desk, line + "\n", BadNote)
            for k in [k for k in range(len(line)) if line[k] == " "]:
                self.assert_refused(desk, line[:k] + " " + line[k:], BadNote)
                self.assert_refused(desk, line[:k] + "\t" + line[k + 1:], BadNote)

    def test_numbers(self):
        desk = filled_desk()
        for word in no_numbers():
            for line in ("clock n {}", "flips n {}", "order six {}", "undone six {}", "along six {}", "along six 1 {}",
                         "span six {}", "span six 1 {}", "way six {}", "round six 1 {}", "ways six {}", "rounds six {}",
                         "snake six {}", "home six {}", "two six {} 1", "two six 1 {}", "barred six {} 1",
                         "barred six 1 {}", "kind six {} : 1", "kind six 1 {} : 1"):
                self.assert_refused(desk, line.format(word), BadNote)

    def test_texts(self):
        desk = filled_desk()
        for text in ("", "none", "00", "0 01/1 0", "0  1/1 0", "0 1/1 0 ", "0 1/1", "0 1 /1 0", "0 0/0 0", "1",
                     "0 2/2 0", "0 1/1 0/", "n", "clock 2"):
            self.assert_refused(desk, f"group n {text}", BadNote)
            self.assert_refused(desk, f"group six {text}", BadNote)
        for text in ("", "24", "1 24", "01", "1  1", " 1", "1 ", "None", "none none", "1 none", "-1", "a", "0/0",
                     " ".join(["1"] * 61)):
            self.assert_refused(desk, f"kind six 1 : {text}", BadNote)

    def test_things_beyond_the_group(self):
        desk = filled_desk()
        for thing in (6, 7, 24, 99):
            for line in ("order six {}", "undone six {}", "along six {}", "along six 1 {}", "span six {}",
                         "span six 0 {}", "two six 1 {}", "barred six 1 {}", "kind six {} : 1", "kind six 1 {} : 1 1"):
                self.assert_refused(desk, line.format(thing), BadNote)
            for word in ASKED_BY_STEPS:
                self.assert_refused(desk, f"{word} six {thing}", BadNote)
                self.assert_refused(desk, f"{word} six 1 {thing}", BadNote)
        for word in ASKED_BY_STEPS:
            self.assert_refused(desk, f"{word} one 1", BadNote)

    def test_where_steps_are_asked_for(self):
        desk = filled_desk()
        for steps in ("0", "0 1", "1 0", "1 1", "2 1", "1 2 2", "1 3 2", "5 4 3 2 1", "0 0", "0 1 2 3 4 5"):
            for word in ASKED_BY_STEPS:
                self.assert_refused(desk, f"{word} six {steps}", BadNote)
            self.assert_refused(desk, f"kind six {steps} : 1 1 1 1 1", BadNote)
        for steps in ("0 1", "1 0", "1 1", "2 1", "0 0", "5 3"):
            for word in ASKED_BY_TWO:
                self.assert_refused(desk, f"{word} six {steps}", BadNote)

    def test_five_and_six_steps(self):
        desk = filled_desk()
        for word in ASKED_BY_STEPS:
            desk.say(f"{word} eight 1 2 3 4 5")
            self.assert_refused(desk, f"{word} eight 1 2 3 4 5 6", BadNote)
        self.assert_says(desk, "kind eight 1 2 3 4 5 : 1 1 1 1 1 1 1", "way")
        self.assert_refused(desk, "kind eight 1 2 3 4 5 6 : 1 1 1 1 1 1 1", BadNote)

    def test_names_by_which_none_is_kept(self):
        desk = filled_desk()
        for line in RIGHT_LINES[5:]:
            self.assert_refused(desk, line.replace("six", "nosuch"), NoName)
            self.assert_refused(Desk(), line, NoName)
        for line in ("both nosuch two n", "both two nosuch n", "both nosuch nosuch n", "both nosuch two nosuch",
                     "both two n n"):
            self.assert_refused(desk, line, NoName)

    def test_what_is_asked_refuses(self):
        desk = filled_desk()
        for line in ("both six six n", "both two thirteen n", "both thirteen two n", "both most two most",
                     "way thirteen 1", "round thirteen 1", "way wild", "round most 1", "ways nine 1", "rounds nine 1",
                     "ways twelve 1", "rounds thirteen", "two pairs 1 12", "two most 1 13"):
            self.assert_refused(desk, line, TooMany)
        for line in ("snake swap 1", "home swap 1", "snake swap", "home wild", "snake wild 1 2"):
            self.assert_refused(desk, line, NotPlain)

    def test_just_within_what_is_asked(self):
        desk = filled_desk()
        self.assert_says(desk, "way twelve 1", "1 1 1 1 1 1 1 1 1 1 1")
        self.assert_says(desk, "round twelve 1", "1 1 1 1 1 1 1 1 1 1 1 1")
        self.assert_says(desk, "ways eight 1", "1")
        self.assert_says(desk, "rounds eight 1", "1")
        self.assert_says(desk, "both twelve two n", "ok")
        self.assert_says(desk, "clock n 20", "ok")
        self.assert_says(desk, "two n 1 11", str(len(all_rounds_of_two(turning(20), (1, 11)))))
        self.assert_says(desk, "barred pairs 1 12", yes_or_no(is_barred(turning(22), (1, 12))))


class Point92TheOrderOfRefusals(DeskTest):
    def test_no_such_line_goes_ahead_of_no_such_name(self):
        desk = filled_desk()
        for line in ("show nosuch 1", "plain nosuch 1", "order nosuch 01", "order nosuch", "undone nosuch 100",
                     "along nosuch", "along nosuch 1 a", "span nosuch", "span nosuch 1 01", "way nosuch 01",
                     "round nosuch 100", "ways nosuch a", "rounds nosuch 1  2", "snake nosuch -1", "home nosuch 001",
                     "two nosuch 1", "two nosuch 1 2 3", "barred nosuch 1 02", "kind nosuch 1", "kind nosuch 1 : 24",
                     "kind nosuch 1 : ", "kind nosuch 01 : 1", "kind nosuch 1 : 1  1", "both nosuch two N",
                     "both nosuch two abcdefghi", "both nosuch Two n", "both NOSUCH nosuch n", "both nosuch nosuch",
                     "both nosuch two n n"):
            self.assert_refused(desk, line, BadNote)

    def test_no_such_line_goes_ahead_of_what_is_asked(self):
        desk = filled_desk()
        for line in ("both six six N", "both six six abcdefghi", "way thirteen 01", "round thirteen 100", "ways nine a",
                     "rounds nine 1 ", "snake swap 01", "home swap 1  2", "two pairs 1 012", "two pairs 1 12 13"):
            self.assert_refused(desk, line, BadNote)

    def test_no_such_name_goes_ahead_of_no_such_thing_or_steps(self):
        desk = filled_desk()
        for line in ("order nosuch 99", "undone nosuch 24", "along nosuch 99", "span nosuch 1 99", "way nosuch 0",
                     "round nosuch 99", "ways nosuch 2 1", "rounds nosuch 1 1", "snake nosuch 0 1",
                     "home nosuch 1 2 3 4 5 6", "two nosuch 0 1", "two nosuch 2 1", "barred nosuch 1 1",
                     "barred nosuch 98 99", "kind nosuch 0 : 1", "kind nosuch 2 1 : 1", "kind nosuch 99 : none"):
            self.assert_refused(desk, line, NoName)

    def test_no_such_name_goes_ahead_of_what_is_asked(self):
        desk = filled_desk()
        for line in ("both most nosuch n", "both nosuch most n"):
            self.assert_refused(desk, line, NoName)

    def test_no_such_thing_or_steps_goes_ahead_of_what_is_asked(self):
        desk = filled_desk()
        for line in ("way thirteen 13", "way thirteen 0", "round thirteen 2 1", "round most 1 1", "ways nine 9",
                     "ways nine 0 1", "rounds nine 1 2 3 4 5 6", "snake swap 6", "snake swap 0", "home swap 2 1",
                     "home swap 1 1", "two pairs 1 22", "two pairs 0 11", "two pairs 12 1", "two pairs 1 99"):
            self.assert_refused(desk, line, BadNote)

    def test_what_is_refused_changes_nothing(self):
        desk = filled_desk()
        for line in ("group six 0 1/1 1", "clock six 25", "flips six 13", "clock six 0", "flips six 01", "group six",
                     "clock six 3 ", "flips six 3 3"):
            self.assert_refused(desk, line, BadNote)
        self.assert_refused(desk, "both nosuch two six", NoName)
        self.assert_refused(desk, "both six six six", TooMany)
        self.assert_says(desk, "show six", group_text(turning(6)))
        self.assert_refused(Desk(), "both a a a", NoName)
        self.assert_refused(Desk(), "clock a 25", BadNote)
