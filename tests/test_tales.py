"""[2]: what a tale is, and that all else is refused."""

import unittest

from placetale.errors import BadTale, BadText, NoDeed, TaleError, TooMany
from placetale.maps import Map
from placetale.playing import begin
from placetale.tales import Tale
from tests.told import FULL_FLAGS, FULL_ROOMS, FULL_THINGS, bare, full_parts, parts, small

WRONG_NAMES = [
    "", "abcdefghi", "then", "Hall", "hAll", "ALL", "hall2", "7", "a b", " a", "a ", "a_b", "a-b", "a,", "a:",
    "a\n", "\na", "`", "{", "a`", "a{", "@", "~",
]
GOOD_NAMES = ["a", "z", "az", "abcdefgh", "thens", "the", "hen", "if", "is", "in", "wish", "rule"]

WRONG_NEEDS = [
    ("on", "hall"), ("In", "hall"), ("", "hall"), ("in ", "hall"),
    ("in",), ("in", "hall", "hall"), ("in", "hall", ""), ("in", "attic"), ("in", "lamp"), ("in", "lit"),
    ("in", ""), ("in", "hand"), ("in", "nowhere"),
    ("at",), ("at", "lamp"), ("at", "hall"), ("at", "lamp", "hall", "hall"), ("at", "sword", "hall"),
    ("at", "hall", "lamp"), ("at", "lamp", "attic"), ("at", "lamp", ""), ("at", "", "hall"), ("at", "lamp", "gold"),
    ("is",), ("is", "lit", "lit"), ("is", "dark"), ("is", ""), ("is", "lamp"),
    ("not",), ("not", "lit", "open"), ("not", "dark"), ("not", ""), ("not", "hall"), ("not", "is", "lit"),
    ("hall",), ("lit",), ("hall", "in"), ("lit", "is"),
]
GOOD_NEEDS = [
    ("in", "hall"), ("in", "garden"), ("at", "lamp", "hall"), ("at", "ghost", "hand"), ("at", "gold", "nowhere"),
    ("is", "lit"), ("is", "open"), ("not", "lit"), ("not", "open"),
]
WRONG_EFFECTS = [
    ("walk", "hall"), ("Go", "hall"), ("", "hall"), ("put", "lamp", "hall"),
    ("go",), ("go", "hall", "hall"), ("go", "attic"), ("go", "hand"), ("go", "nowhere"), ("go", ""), ("go", "lamp"),
    ("move",), ("move", "lamp"), ("move", "lamp", "hall", "hall"), ("move", "sword", "hall"),
    ("move", "lamp", "attic"), ("move", "hall", "lamp"), ("move", "lamp", ""), ("move", "", "hall"),
    ("set",), ("set", "lit", "lit"), ("set", "dark"), ("set", ""), ("set", "lamp"),
    ("clear",), ("clear", "lit", "open"), ("clear", "dark"), ("clear", ""), ("clear", "hall"),
    ("hall",), ("lit", "set"),
]
GOOD_EFFECTS = [
    ("go", "hall"), ("go", "garden"), ("move", "lamp", "hall"), ("move", "ghost", "hand"), ("move", "gold", "nowhere"),
    ("set", "lit"), ("set", "open"), ("clear", "lit"), ("clear", "open"),
]


class Taken(unittest.TestCase):
    def test_the_least_tale(self):
        tale = Tale(0, ["hall"], [], [], [], [], ())
        self.assertEqual(begin(tale), ("hall", (), ()))
        self.assertEqual(Map(tale).states(), [("hall", (), ())])

    def test_the_greatest_tale(self):
        tale = Tale(**full_parts())
        self.assertEqual(begin(tale), ("ra", ("hand",) * 6, ()))

    def test_each_number_of_hands(self):
        for hands in range(7):
            bare(hands=hands)

    def test_as_many_in_the_hand_as_hands_tells(self):
        for hands in range(7):
            told = [(name, "hand") for name in FULL_THINGS[:hands]]
            self.assertEqual(begin(bare(hands=hands, things=told))[1], ("hand",) * hands)

    def test_good_names_everywhere(self):
        for name in GOOD_NAMES:
            bare(rooms=[name])
            bare(ways=[("hall", name, "hall", "")])
            bare(things=[(name, "nowhere")])
            bare(flags=[name])
            bare(rules=[(name, (), (("go", "hall"),))])

    def test_hand_and_nowhere_are_names_of_all_but_rooms(self):
        for name in ("hand", "nowhere"):
            bare(ways=[("hall", name, "hall", "")], things=[(name, name)], hands=1, flags=[name],
                 rules=[(name, (("at", name, name),), (("move", name, name), ("set", name)))])

    def test_the_same_name_for_a_room_a_thing_a_flag_and_a_word(self):
        tale = Tale(1, ["a"], [("a", "a", "a", "a")], [("a", "a")], ["a"],
                    [("a", (("in", "a"), ("at", "a", "a"), ("not", "a")), (("set", "a"),))], (("is", "a"),))
        self.assertEqual(begin(tale), ("a", ("a",), ()))

    def test_the_same_word_in_ways_of_several_rooms_and_in_several_rules(self):
        rule = ("say", (), (("go", "a"),))
        bare(rooms=["a", "b"], ways=[("a", "on", "b", ""), ("b", "on", "a", "")], rules=[rule, rule])

    def test_two_ways_between_the_same_rooms_and_one_to_the_same_room(self):
        bare(rooms=["a", "b"], ways=[("a", "on", "b", ""), ("a", "off", "b", ""), ("a", "stay", "a", "")])

    def test_good_needs_and_effects(self):
        for need in GOOD_NEEDS:
            small(wish=(need,))
            small(rules=[("say", (need,), (("go", "hall"),))])
        for effect in GOOD_EFFECTS:
            small(rules=[("say", (), (effect,))])

    def test_needs_and_effects_may_stand_twice(self):
        small(rules=[("say", (("is", "lit"),) * 6, (("set", "lit"),) * 6)], wish=(("is", "lit"),) * 6)


class Refused(unittest.TestCase):
    def refuse(self, **told):
        with self.assertRaises(BadTale, msg=str(told)):
            Tale(**told)

    def refuse_small(self, **other):
        self.refuse(**parts(**other))

    def refuse_full(self, **other):
        self.refuse(**full_parts(**other))

    def test_the_refusal_is_bad_tale_and_no_other(self):
        try:
            small(hands=7)
            self.fail("taken")
        except TaleError as caught:
            self.assertIsInstance(caught, BadTale)
            self.assertNotIsInstance(caught, (BadText, NoDeed, TooMany))

    def test_hands(self):
        for hands in (-2, -1, 7, 8, 100):
            self.refuse_small(hands=hands)

    def test_no_room(self):
        self.refuse(hands=0, rooms=[], ways=[], things=[], flags=[], rules=[], wish=())

    def test_one_more_than_may_be(self):
        full = full_parts()
        self.refuse_full(rooms=FULL_ROOMS + ["ri"])
        self.refuse_full(ways=full["ways"] + [("ra", "more", "rb", "")])
        self.refuse_full(things=full["things"] + [("tg", "nowhere")])
        self.refuse_full(flags=FULL_FLAGS + ["m"])
        self.refuse_full(rules=full["rules"] + [("say", (), (("go", "ra"),))])
        self.refuse_full(wish=full["wish"] + (("in", "ra"),))

    def test_needs_and_effects_of_a_rule_beyond_their_counts(self):
        need, effect = ("is", "lit"), ("set", "lit")
        self.refuse_small(rules=[("say", (need,) * 7, (effect,))])
        self.refuse_small(rules=[("say", (need,), (effect,) * 7)])
        self.refuse_small(rules=[("say", (need,), ())])
        self.refuse_small(rules=[("say", (), ())])

    def test_wrong_names(self):
        tale = {"hands": 0, "rooms": ["hall"], "ways": [], "things": [], "flags": [], "rules": [], "wish": ()}
        for name in WRONG_NAMES:
            self.refuse(**{**tale, "rooms": [name]})
            self.refuse(**{**tale, "rooms": ["hall", name]})
            self.refuse(**{**tale, "ways": [("hall", name, "hall", "")]})
            self.refuse(**{**tale, "things": [(name, "hall")]})
            self.refuse(**{**tale, "flags": [name]})
            self.refuse(**{**tale, "rules": [(name, (), (("go", "hall"),))]})

    def test_rooms_called_hand_or_nowhere(self):
        for name in ("hand", "nowhere"):
            self.refuse_small(rooms=["hall", "cellar", "garden", name])
            self.refuse(**{**parts(ways=[], things=[], rules=[], wish=()), "rooms": [name]})

    def test_doubled_names(self):
        self.refuse_small(rooms=["hall", "cellar", "garden", "hall"])
        self.refuse_small(things=parts()["things"] + [("lamp", "hall")])
        self.refuse_small(things=parts()["things"] + [("lamp", "cellar")])
        self.refuse_small(flags=["lit", "open", "lit"])

    def test_two_ways_of_a_room_with_the_same_word(self):
        for other in ("hall", "cellar", "garden"):
            for flag in ("", "lit"):
                self.refuse_small(ways=parts()["ways"] + [("hall", "down", other, flag)])

    def test_ways_that_name_what_is_not_there(self):
        for way in [("attic", "in", "hall", ""), ("hall", "in", "attic", ""), ("hall", "in", "cellar", "dark"),
                    ("", "in", "hall", ""), ("hall", "in", "", ""), ("hall", "in", "hand", ""),
                    ("hand", "in", "hall", ""), ("hall", "in", "nowhere", ""), ("hall", "in", "lamp", ""),
                    ("hall", "in", "cellar", "lamp"), ("hall", "in", "cellar", "hall"), ("hall", "in", "hall", " ")]:
            self.refuse_small(ways=parts()["ways"] + [way])

    def test_things_at_places_that_are_not_there(self):
        for place in ("attic", "", "Hall", "lit", "sword", "hands"):
            self.refuse_small(things=parts()["things"] + [("sword", place)])

    def test_more_things_in_the_hand_than_hands_tells(self):
        for hands in range(6):
            told = [(name, "hand") for name in FULL_THINGS[:hands + 1]]
            self.refuse(hands=hands, rooms=["a"], ways=[], things=told, flags=[], rules=[], wish=())
        self.refuse_small(things=[("lamp", "hand"), ("gold", "hall"), ("ghost", "hand")])

    def test_wrong_needs(self):
        for need in WRONG_NEEDS + [("go", "hall"), ("move", "lamp", "hall"), ("set", "lit"), ("clear", "lit")]:
            self.refuse_small(wish=(need,))
            self.refuse_small(wish=(("in", "hall"), need))
            self.refuse_small(rules=[("say", (need,), (("go", "hall"),))])
            self.refuse_small(rules=[("say", (("in", "hall"), need), (("go", "hall"),))])

    def test_wrong_effects(self):
        for effect in WRONG_EFFECTS + [("in", "hall"), ("at", "lamp", "hall"), ("is", "lit"), ("not", "lit")]:
            self.refuse_small(rules=[("say", (), (effect,))])
            self.refuse_small(rules=[("say", (), (("go", "hall"), effect))])

    def test_a_wrong_part_behind_good_ones(self):
        self.refuse_small(rules=parts()["rules"] + [("Say", (), (("go", "hall"),))])
        self.refuse_small(ways=parts()["ways"] + [("garden", "Down", "hall", "")])
        self.refuse_small(things=parts()["things"] + [("Sword", "hall")])
        self.refuse_small(flags=parts()["flags"] + ["Shut"])


class Kept(unittest.TestCase):
    def test_what_is_handed_in_is_not_changed(self):
        told = parts()
        tale = Tale(**told)
        Map(tale)
        self.assertEqual(told, parts())

    def test_what_is_handed_in_is_not_changed_by_a_refusal(self):
        told = parts(wish=(("is", "dark"),))
        with self.assertRaises(BadTale):
            Tale(**told)
        self.assertEqual(told, parts(wish=(("is", "dark"),)))

    def test_what_is_kept_is_a_copy(self):
        told = parts()
        tale = Tale(**told)
        before = Map(tale)
        for part in ("rooms", "ways", "things", "flags", "rules"):
            told[part].clear()
        after = Map(tale)
        self.assertEqual(begin(tale), ("hall", ("hall", "cellar", "nowhere"), ()))
        self.assertEqual(before.states(), after.states())
        for number in range(len(before.states())):
            self.assertEqual(before.steps(number), after.steps(number))
        self.assertEqual(before.won(), after.won())

    def test_what_is_added_later_is_not_there(self):
        told = parts(ways=[], rules=[])
        tale = Tale(**told)
        told["ways"].append(("hall", "down", "cellar", ""))
        told["things"].append(("sword", "hall"))
        told["rules"].append(("say", (), (("go", "cellar"),)))
        self.assertEqual(begin(tale)[1], ("hall", "cellar", "nowhere"))
        self.assertEqual(Map(tale).steps(0), [(("take", "lamp"), 1)])


if __name__ == "__main__":
    unittest.main()
