"""[14] and [15]: texts, written and read."""

import unittest

from placetale.errors import BadTale, BadText, NoDeed, TaleError, TooMany
from placetale.likeness import parted
from placetale.maps import Map
from placetale.playing import begin
from placetale.tales import Tale
from placetale.texts import read, written
from placetale.walks import shortest
from tests.told import bare, drawn, full_parts, great, small, wide

SMALL = """hands 1
room hall
room cellar
room garden
way hall down cellar
way cellar up hall
way hall out garden if open
way garden up hall
thing lamp hall
thing gold cellar
thing ghost nowhere
flag lit
flag open
rule rub: if at lamp hand, not lit then set lit
rule pull: if in cellar, is lit then set open
rule rub: if is lit then clear lit, move ghost hand
wish at gold garden, is lit"""

# A row of each sort behind which another row may stand: rows of the text, and the number of the last one.
AHEAD = ["hands 1", "room hall", "room cellar", "way hall down cellar", "thing lamp hall", "flag lit"]

BAD_HANDS = [
    "", " ", "hands", "hands ", "hands 10", "hands 01", "hands -1", "hands +1", "hands x", "hands one", "hands  1",
    "hands 1 ", " hands 1", "hands 1 2", "Hands 1", "hand 1", "hands: 1", "hands 1,", "hands 1:", "hands,1", "1",
    "hands1", "room hall", "way hall down cellar", "thing lamp hall", "flag lit", "rule say: set lit", "wish is lit",
]
BAD_ROWS = [
    "", " ", ",", ":", "look", "rooms hall", "Room hall", "then", "if", "way:", "rule", "rule ", "wish", "wish ", "flag",
    "room: hall", "room,", "thing", "way", " flag lit", "flag lit ", "flag  lit", "flag lit open", "flag lit, open",
]
BAD_RULES = [
    "rule", "rule ", "rule say", "rule say:", "rule say: ", "rule say:set lit", "rule say set lit", "rule : set lit",
    "rule: set lit", "rule say : set lit", "rule say it: set lit", "rule  say: set lit", "rule say:  set lit",
    "rule say: set lit ", "rule say: set  lit", "rule say: set lit, ", "rule say: , set lit", "rule say: set lit , set lit",
    "rule say: set lit,  set lit", "rule say: set lit, , set lit", "rule say: if is lit set lit", "rule say: if is lit",
    "rule say: if is lit then", "rule say: if is lit then ", "rule say: if then set lit", "rule say: if  then set lit",
    "rule say: if", "rule say: if ", "rule say: if is lit  then set lit", "rule say: if is lit then  set lit",
    "rule say: if  is lit then set lit", "rule say: if is lit, then", "rule say: if , is lit then set lit",
    "rule say: if is lit,  then set lit", "rule say: if is lit then , set lit", "rule say: if is lit, , is lit then set lit",
    "Rule say: set lit", "rules say: set lit",
]
BAD_WISHES = [
    "wish", "wish ", "wish  is lit", "wish is  lit", "wish is lit ", "wish is lit, ", "wish , is lit",
    "wish is lit , is lit", "wish is lit,  is lit", "wish is lit, , is lit", "wishes is lit", "wish: is lit",
]
WRONG_RULES = [
    "rule Say: set lit", "rule then: set lit", "rule say:: set lit", "rule a:b: set lit", "rule a,b: set lit",
    "rule say,: set lit", "rule say: set", "rule say: set lit lit", "rule say: lit", "rule say: set dark",
    "rule say: is lit", "rule say: set lit,clear lit", "rule say: set lit,", "rule say: ,set lit", "rule say: set: lit",
    "rule say: move lamp", "rule say: move lamp hall hall", "rule say: go attic", "rule say: go hand",
    "rule say: if set lit then set lit", "rule say: if is then set lit", "rule say: if is lit lit then set lit",
    "rule say: if then then set lit", "rule say: if is lit then then set lit", "rule say: if lit then lit",
    "rule say: if is lit then set lit then set lit", "rule say: if is lit,not lit then set lit",
    "rule say: if at lamp then set lit", "rule say: is lit then set lit", "rule say: if, set lit",
    "rule say: set lit, if is lit then set lit", "rule say: " + ", ".join(["set lit"] * 7),
    "rule say: if " + ", ".join(["is lit"] * 7) + " then set lit",
]
WRONG_WISHES = [
    "wish is", "wish lit", "wish is lit lit", "wish is dark", "wish set lit", "wish in hand", "wish at lamp",
    "wish at lamp attic", "wish in hall,is lit", "wish is lit,", "wish ,is lit", "wish is: lit", "wish is lit:",
    "wish if", "wish then", "wish Is lit", "wish " + ", ".join(["is lit"] * 7), "wish wish is lit",
]


def text_of(*rows):
    return "\n".join(rows)


class Written(unittest.TestCase):
    def test_the_small_tale(self):
        self.assertEqual(written(small()), SMALL)

    def test_the_least_tale(self):
        self.assertEqual(written(bare()), "hands 0\nroom hall")

    def test_hands(self):
        for hands in range(7):
            self.assertEqual(written(bare(hands=hands)), f"hands {hands}\nroom hall")

    def test_each_need_and_effect(self):
        needs = (("in", "a"), ("at", "x", "hand"), ("at", "x", "a"), ("is", "f"), ("not", "f"), ("at", "x", "nowhere"))
        effects = (("go", "a"), ("move", "x", "hand"), ("move", "x", "a"), ("set", "f"), ("clear", "f"),
                   ("move", "x", "nowhere"))
        tale = Tale(1, ["a"], [], [("x", "hand")], ["f"], [("say", needs, effects), ("say", (), effects[:1])], needs)
        self.assertEqual(written(tale).split("\n")[2:], [
            "thing x hand",
            "flag f",
            "rule say: if in a, at x hand, at x a, is f, not f, at x nowhere then "
            "go a, move x hand, move x a, set f, clear f, move x nowhere",
            "rule say: go a",
            "wish in a, at x hand, at x a, is f, not f, at x nowhere",
        ])

    def test_a_row_of_each_sort_alone(self):
        rows = {
            "way hall on hall": {"ways": [("hall", "on", "hall", "")]},
            "thing x nowhere": {"things": [("x", "nowhere")]},
            "flag f": {"flags": ["f"]},
            "rule say: go hall": {"rules": [("say", (), (("go", "hall"),))]},
            "wish in hall": {"wish": (("in", "hall"),)},
        }
        for row, told in rows.items():
            self.assertEqual(written(bare(**told)), text_of("hands 0", "room hall", row))

    def test_the_greatest_counts(self):
        rows = written(Tale(**full_parts())).split("\n")
        self.assertEqual(len(rows), 1 + 8 + 24 + 6 + 12 + 24 + 1)
        self.assertEqual([rows[0], rows[8], rows[9], rows[33], rows[39], rows[51]], [
            "hands 6", "room rh", "way ra x ra if l", "thing ta hand", "flag a",
            "rule say: if in ra, at ta hand, is a, not b, at tb nowhere, at tf rh then "
            "go rh, move ta nowhere, move tb hand, set l, clear a, move tc rb",
        ])
        self.assertEqual(rows[51:75], [rows[51]] * 24)
        self.assertEqual(rows[75], "wish in ra, at ta hand, is a, not b, at tb nowhere, at tf rh")


class Read(unittest.TestCase):
    def check(self, tale):
        """What is written is read to the same tale: it is written and plays the same."""
        again = read(written(tale))
        self.assertIsInstance(again, Tale)
        self.assertEqual(written(again), written(tale))
        chart, other = Map(tale), Map(again)
        self.assertEqual(chart.states(), other.states())
        self.assertEqual(chart.won(), other.won())
        for number in range(len(chart.states())):
            self.assertEqual(chart.steps(number), other.steps(number))
            self.assertEqual(chart.walk_to(number), other.walk_to(number))

    def test_the_small_tale(self):
        self.check(small())
        self.assertEqual(shortest(read(SMALL)), shortest(small()))
        self.assertEqual(written(read(SMALL)), SMALL)

    def test_the_least_tale(self):
        self.check(bare())
        self.assertEqual(begin(read("hands 0\nroom hall")), ("hall", (), ()))

    def test_the_greatest_counts(self):
        self.check(Tale(**full_parts()))
        self.check(great())
        self.check(wide(False))

    def test_drawn_tales(self):
        for seed in range(300):
            self.check(drawn(seed))

    def test_names_that_are_words_of_rows(self):
        for name in ("if", "is", "in", "at", "not", "wish", "rule", "room", "hands", "go", "set", "thens"):
            needs = (("is", name), ("at", name, name), ("in", name))
            self.check(Tale(2, ["a", name], [(name, name, "a", name), ("a", name, name, "")], [(name, "hand")], [name],
                            [(name, needs, (("set", name), ("go", name))), (name, (), (("set", name),))], needs))

    def test_a_tale_of_if(self):
        text = text_of("hands 1", "room if", "way if if if if if", "thing if if", "flag if",
                       "rule if: if is if, at if if then set if", "rule if: set if", "wish is if, in if")
        self.assertEqual(written(read(text)), text)
        self.check(read(text))
        told = written(read(text_of("hands 1", "room if", "way if if if")))
        self.assertEqual(told, written(bare(hands=1, rooms=["if"], ways=[("if", "if", "if", "")])))

    def test_sorts_may_be_left_out(self):
        for at in range(3, len(AHEAD)):
            for told in (AHEAD[:at], AHEAD[:3] + AHEAD[at:]):
                self.assertEqual(written(read(text_of(*told))), text_of(*told))

    def test_each_hands(self):
        for hands in range(7):
            self.assertEqual(written(read(f"hands {hands}\nroom a")), f"hands {hands}\nroom a")

    def test_alike_with_what_was_written(self):
        for tale in (small(), great(), drawn(7)):
            self.assertEqual(parted(tale, read(written(tale)))[0], "alike")


class Bad(unittest.TestCase):
    def bad_row(self, text, row):
        """The text is refused for the row of that number."""
        try:
            read(text)
            self.fail("read: " + text)
        except TaleError as caught:
            self.assertIs(type(caught), BadText, text)
            self.assertEqual(caught.row, row, text)

    def bad_tale(self, text):
        try:
            read(text)
            self.fail("read: " + text)
        except TaleError as caught:
            self.assertIs(type(caught), BadTale, text)

    def test_refusals_stand_straight_under_tale_error(self):
        for refusal in (BadTale, BadText):
            self.assertEqual(refusal.__bases__, (TaleError,))
            self.assertFalse(issubclass(refusal, (NoDeed, TooMany)))

    def test_the_first_row(self):
        for row in BAD_HANDS:
            self.bad_row(row, 0)
            self.bad_row(text_of(row, *AHEAD[1:]), 0)

    def test_other_rows(self):
        for row in BAD_ROWS:
            for at in range(1, len(AHEAD) + 1):
                self.bad_row(text_of(*AHEAD[:at], row), at)

    def test_a_row_in_the_midst(self):
        for at in range(1, 17):
            rows = SMALL.split("\n")
            rows[at] = rows[at].replace(" ", "  ", 1)
            self.bad_row(text_of(*rows), at)

    def test_each_row_with_a_blank_or_a_word_too_much_or_too_little(self):
        rows = SMALL.split("\n")
        for at, row in enumerate(rows):
            words = row.split(" ")
            wrong = [row + " ", " " + row, words[0], words[0] + " "]
            if words[0] not in ("rule", "wish"):
                wrong += [row + " more", " ".join(words[:-1])]
            for other in wrong:
                self.bad_row(text_of(*rows[:at], other, *rows[at + 1:]), at)

    def test_ways(self):
        for row in ("way hall down", "way hall down cellar lit", "way hall down cellar if", "way hall down cellar if ",
                    "way hall down cellar is lit", "way hall down cellar if lit lit", "way hall down cellar If lit",
                    "way hall down cellar  if lit", "way hall down cellar if  lit", "way hall down cellar, if lit lit"):
            self.bad_row(text_of(*AHEAD[:3], row), 3)
            self.bad_row(text_of(*AHEAD[:3], row, *AHEAD[4:]), 3)

    def test_things(self):
        for row in ("thing lamp", "thing lamp hall hall", "thing lamp  hall", "thing lamp hall if lit"):
            self.bad_row(text_of(*AHEAD[:4], row, AHEAD[5]), 4)

    def test_rules(self):
        for row in BAD_RULES:
            self.bad_row(text_of(*AHEAD, row), 6)
            self.bad_row(text_of(*AHEAD, "rule say: set lit", row, "wish is lit"), 7)

    def test_wishes(self):
        for row in BAD_WISHES:
            self.bad_row(text_of(*AHEAD, row), 6)

    def test_line_feeds_too_many(self):
        self.bad_row("", 0)
        self.bad_row("\n", 0)
        self.bad_row("\n" + SMALL, 0)
        self.bad_row(SMALL + "\n", 17)
        self.bad_row(SMALL.replace("\nflag lit", "\n\nflag lit"), 11)
        self.bad_row("hands 0\nroom hall\n", 2)

    def test_a_row_behind_a_later_sort(self):
        rows = AHEAD[:2] + AHEAD[3:] + ["rule say: set lit", "wish is lit"]
        for late in range(len(rows)):
            for early in range(late):
                self.bad_row(text_of(*rows[:late + 1], rows[early]), late + 1)
                self.bad_row(text_of(*rows[:late + 1], rows[early], *rows[late + 1:]), late + 1)

    def test_a_second_row_of_hands(self):
        self.bad_row("hands 1\nhands 1\nroom hall", 1)
        self.bad_row("hands 1\nhands 2", 1)

    def test_a_second_wish(self):
        self.bad_row(SMALL + "\nwish is lit", 17)
        self.bad_row(SMALL + "\nwish is lit\nwish is lit", 17)
        self.bad_row("hands 1\nroom hall\nwish in hall\nwish in hall", 3)

    def test_the_first_of_several_bad_rows(self):
        self.bad_row("hands x\nroom\nlook", 0)
        self.bad_row("hands 1\nroom\nlook", 1)
        self.bad_row("hands 1\nroom hall\nlook\nroom\nhands 1", 2)
        self.bad_row(text_of(*AHEAD, "room hall", "rule say", "wish"), 6)
        self.bad_row(text_of(*AHEAD, "rule say", "room hall", "wish"), 6)
        self.bad_row(text_of(*AHEAD, "wish is lit", "wish is lit", "rule say"), 7)

    def test_a_bad_row_behind_what_is_no_tale(self):
        self.bad_row("hands 9\nroom Hall\nroom then\nlook", 3)
        self.bad_row("hands 9\nroom hall\nroom hall\nwish\nlook", 3)
        self.bad_row(text_of(*AHEAD, "rule say: set dark", "wish is dark", "flag dark"), 8)
        self.bad_row(text_of(*AHEAD, *["flag lit"] * 20, "flag"), 26)

    def test_good_rows_of_no_tale(self):
        for text in ("hands 1", "hands 7\nroom hall", "hands 9\nroom hall", "hands 0\nroom hand", "hands 0\nroom nowhere",
                     "hands 0\nroom then", "hands 0\nroom Hall", "hands 0\nroom abcdefghi", "hands 0\nroom a\nroom a",
                     "hands 0\nroom 7", "hands 0\nflag lit", "hands 0\nwish in hall", "hands 0\nroom a\nthing x hand",
                     "hands 0\nroom a\nthing x b", "hands 0\nroom a\nway a on b", "hands 0\nroom a\nway a on a if f",
                     "hands 0\nroom a\nflag f\nflag f", "hands 0\nroom a\nway a on a\nway a on a",
                     text_of("hands 0", *["room " + name for name in "abcdefghi"])):
            self.bad_tale(text)

    def test_a_comma_or_a_colon_is_a_part_of_a_word(self):
        for sign in (",", ":", ".", "~", "!", "%", "\\"):
            for word in ("ha" + sign + "ll", "hall" + sign, sign + "hall", sign):
                self.bad_tale("hands 1\nroom " + word)
                self.bad_tale(text_of(*AHEAD[:3], "way hall " + word + " cellar"))
                self.bad_tale(text_of(*AHEAD[:3], "way " + word + " down cellar"))
                self.bad_tale(text_of(*AHEAD[:3], "way hall down cellar if " + word, "flag lit"))
                self.bad_tale(text_of(*AHEAD[:4], "thing " + word + " hall"))
                self.bad_tale(text_of(*AHEAD[:4], "thing lamp " + word))
                self.bad_tale(text_of(*AHEAD[:5], "flag " + word))
                self.bad_tale(text_of(*AHEAD, "wish in " + word))

    def test_rules_and_wishes_of_no_tale(self):
        for row in WRONG_RULES + WRONG_WISHES:
            self.bad_tale(text_of(*AHEAD, row))

    def test_a_flag_of_a_way_may_stand_further_down(self):
        text = text_of(*AHEAD[:3], "way hall down cellar if lit", "flag lit")
        self.assertEqual(written(read(text)), text)


class Told(unittest.TestCase):
    def test_asked_again_the_same_is_told(self):
        tale = small()
        self.assertEqual(written(tale), written(tale))
        self.assertEqual(written(tale), SMALL)
        first, second = read(SMALL), read(SMALL)
        self.assertEqual(written(first), written(second))

    def test_a_text_is_a_string(self):
        self.assertIs(type(written(small())), str)


if __name__ == "__main__":
    unittest.main()
