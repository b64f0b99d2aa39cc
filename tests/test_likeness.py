"""[13]: whether two tales are alike, or are told apart by fewest deeds."""

import unittest

from placetale.errors import BadTale, BadText, NoDeed, TaleError, TooMany
from placetale.likeness import parted
from placetale.maps import Map
from placetale.playing import begin, deeds_at, done, is_won, played
from tests.told import FULL_FLAGS, bare, drawn, drawn_parts, full_parts, great, great_parts, parts, small, wide


def renamed(told, names):
    """The arguments of a tale with other names for some rooms, things or flags, wherever they stand."""
    if isinstance(told, str):
        return names.get(told, told)
    if isinstance(told, dict):
        return {key: renamed(part, names) for key, part in told.items()}
    if isinstance(told, (list, tuple)):
        return type(told)([renamed(part, names) for part in told])
    return told


def line(length, **other):
    """A tale of rooms in a line, with one deed, on, in all but the last; the wish is to be in the last."""
    rooms = ["a", "b", "c", "d", "e", "f", "g", "h"][:length]
    ways = [(room, "on", after, "") for room, after in zip(rooms, rooms[1:])]
    return bare(**{"rooms": rooms, "ways": ways, "wish": (("in", rooms[-1]),), **other})


def differ(one, other, pair):
    deeds = set(deeds_at(one, pair[0])) == set(deeds_at(other, pair[1]))
    return not deeds or is_won(one, pair[0]) != is_won(other, pair[1])


def fewest(one, other):
    """How many deeds part two tales, or None; all pairs that so many deeds come to are looked at first."""
    level, seen, count = {(begin(one), begin(other))}, set(), 0
    while level:
        if any(differ(one, other, pair) for pair in level):
            return count
        seen |= level
        level = {(done(one, pair[0], deed), done(other, pair[1], deed))
                 for pair in level for deed in deeds_at(one, pair[0])} - seen
        count += 1
    return None


class Parted(unittest.TestCase):
    def check(self, one, other, expected):
        """What is told, against the words of the document; expected is "alike" or the count of fewest deeds."""
        for first, second in ((one, other), (other, one)):
            told = parted(first, second)
            self.assertIs(type(told), tuple)
            self.assertEqual([type(part) for part in told], [str, list])
            if expected == "alike":
                self.assertEqual(told[0], "alike")
                self.check_pairs(first, second, told[1])
            else:
                self.assertEqual(told[0], "apart")
                self.assertEqual(len(told[1]), expected)
                pair = (played(first, told[1])[-1], played(second, told[1])[-1])
                self.assertTrue(differ(first, second, pair))

    def check_pairs(self, one, other, pairs):
        self.assertEqual(pairs[0], (begin(one), begin(other)))
        self.assertEqual(len(set(pairs)), len(pairs))
        come_to = {pairs[0]}
        for state, twin in pairs:
            self.assertFalse(differ(one, other, (state, twin)))
            come_to |= {(done(one, state, deed), done(other, twin, deed)) for deed in deeds_at(one, state)}
        self.assertEqual(come_to, set(pairs))


class Alike(Parted):
    def test_a_tale_and_itself(self):
        for tale in (bare(), small(), line(5), great(), drawn(3)):
            self.check(tale, tale, "alike")
            self.assertEqual(parted(tale, tale)[1], [(state, state) for state in Map(tale).states()])

    def test_two_small_tales(self):
        ways = [("a", "on", "a", "")]
        ring = [("x", "on", "y", ""), ("y", "on", "z", ""), ("z", "on", "y", "")]
        self.assertEqual(parted(bare(rooms=["a"], ways=ways), bare(rooms=["x", "y", "z"], ways=ring)), ("alike", [
            (("a", (), ()), ("x", (), ())), (("a", (), ()), ("y", (), ())), (("a", (), ()), ("z", (), ())),
        ]))

    def test_two_rings_meet_in_each_pair(self):
        two = bare(rooms=["a", "b"], ways=[("a", "on", "b", ""), ("b", "on", "a", "")])
        three = bare(rooms=["a", "b", "c"], ways=[("a", "on", "b", ""), ("b", "on", "c", ""), ("c", "on", "a", "")])
        self.check(two, three, "alike")
        rooms = [(state[0], twin[0]) for state, twin in parted(two, three)[1]]
        self.assertEqual(rooms, [("a", "a"), ("b", "b"), ("a", "c"), ("b", "a"), ("a", "b"), ("b", "c")])

    def test_other_names_of_rooms_and_flags(self):
        other = renamed(parts(), {"hall": "a", "cellar": "cellar", "garden": "hall", "lit": "open", "open": "lit"})
        self.check(small(), small(**other), "alike")

    def test_another_order_of_ways_things_and_flags(self):
        told = parts()
        other = small(ways=told["ways"][::-1], things=told["things"][::-1], flags=told["flags"][::-1])
        self.check(small(), other, "alike")

    def test_what_can_not_be_come_to_does_not_count(self):
        told = parts(rooms=parts()["rooms"] + ["attic"], things=parts()["things"] + [("sword", "nowhere")])
        told["ways"].append(("attic", "fly", "hall", ""))
        told["rules"].append(("pray", (("at", "sword", "hand"),), (("set", "lit"),)))
        self.check(small(), small(**told), "alike")

    def test_the_wish_told_otherwise(self):
        one = small(wish=(("is", "lit"), ("not", "lit")))
        self.check(one, small(wish=(("in", "hall"), ("in", "cellar"))), "alike")
        self.check(bare(), bare(wish=(("in", "hall"),)), "alike")

    def test_no_deeds_at_all(self):
        self.assertEqual(parted(bare(), bare(rooms=["a", "b"])), ("alike", [(("hall", (), ()), ("a", (), ()))]))

    def test_the_greatest_counts(self):
        names = {old: "n" + old for old in great_parts()["rooms"] + FULL_FLAGS}
        told = renamed(great_parts(), names)
        self.check(great(), great(**told), "alike")
        self.assertEqual(len(parted(great(), great(**told))[1]), 968)
        self.check(bare(**full_parts()), bare(**full_parts(rules=[], wish=(("is", "a"),))), "alike")


class Apart(Parted):
    def test_at_the_beginning(self):
        self.check(bare(), bare(ways=[("hall", "on", "hall", "")]), 0)
        self.check(bare(), bare(flags=["f"], wish=(("is", "f"),)), 0)
        self.check(bare(ways=[("hall", "on", "hall", "")]), bare(rules=[("on", (), (("go", "hall"),))]), 0)
        self.assertEqual(parted(bare(), bare(ways=[("hall", "on", "hall", "")])), ("apart", []))

    def test_by_a_deed_of_the_same_count_but_another_word(self):
        self.check(bare(ways=[("hall", "on", "hall", "")]), bare(ways=[("hall", "off", "hall", "")]), 0)
        one = bare(ways=[("hall", "a", "hall", ""), ("hall", "b", "hall", "")])
        self.check(one, bare(ways=[("hall", "a", "hall", ""), ("hall", "c", "hall", "")]), 0)

    def test_by_the_deeds_further_on(self):
        for length in range(1, 8):
            self.check(line(length, wish=()), line(length + 1, wish=()), length - 1)
        self.assertEqual(parted(line(3, wish=()), line(8, wish=())), ("apart", [("go", "on"), ("go", "on")]))

    def test_by_the_wish_further_on(self):
        for at, room in enumerate(["b", "c", "d"]):
            self.check(line(8), line(8, wish=(("in", room),)), at + 1)
        self.check(line(8), line(8, wish=(("in", "h"), ("in", "a"))), 7)
        self.check(line(1, wish=()), line(2, wish=(("in", "a"),)), 0)

    def test_fewest_deeds_of_several(self):
        ways = [("a", "z", "b", ""), ("b", "z", "c", ""), ("c", "z", "d", ""), ("a", "y", "d", "")]
        one = bare(rooms=["a", "b", "c", "d"], ways=ways, wish=(("in", "d"),))
        other = bare(rooms=["a", "b", "c", "d"], ways=ways, wish=(("in", "d"), ("in", "a")))
        self.assertEqual(parted(one, other), ("apart", [("go", "y")]))
        self.check(one, other, 1)

    def test_by_how_many_may_be_taken(self):
        things = [("x", "hall"), ("y", "hall")]
        self.check(bare(hands=1, things=things), bare(hands=2, things=things), 1)
        self.check(bare(hands=0, things=things), bare(hands=1, things=things), 0)

    def test_a_tale_that_is_merely_longer_in_coming(self):
        tale = small()
        other = small(wish=parts()["wish"] + (("not", "open"),))
        self.check(tale, other, 9)
        self.assertTrue(is_won(tale, played(tale, parted(tale, other)[1])[-1]))

    def test_the_greatest_counts(self):
        other = great(wish=great_parts()["wish"][:5] + (("not", "a"),))
        self.check(great(), other, 13)
        self.check(great(), great(rules=great_parts()["rules"][:23]), 12)
        self.check(bare(**full_parts()), bare(**full_parts(wish=(("at", "ta", "ra"),) * 6)), 1)

    def test_drawn_tales(self):
        counts = []
        for seed in range(300):
            told, more = drawn_parts(seed), drawn_parts(seed + 1000)
            in_hand = [place for _, place in told["things"]].count("hand")
            others = [drawn(seed, hands=in_hand), drawn(seed, rules=told["rules"][1:]), drawn(seed, ways=told["ways"][1:]),
                      drawn(seed, rules=told["rules"][::-1], ways=told["ways"][::-1]), drawn(seed, wish=()), drawn(seed + 1)]
            if set(more["rooms"]) <= set(told["rooms"]) and set(more["flags"]) <= set(told["flags"]):
                others.append(drawn(seed, ways=more["ways"]))
            for other in others:
                expected = fewest(drawn(seed), other)
                counts.append(expected)
                self.check(drawn(seed), other, "alike" if expected is None else expected)
        for expected in (None, 0, 1, 2):
            self.assertGreater(counts.count(expected), 10, expected)


class Many(Parted):
    def refuse(self, one, other):
        try:
            parted(one, other)
            self.fail("told")
        except TaleError as caught:
            self.assertIsInstance(caught, TooMany)
            self.assertNotIsInstance(caught, (BadTale, BadText, NoDeed))

    def test_just_4000_pairs(self):
        self.check(wide(False, "abcde"), wide(False, "fghij", rules=self.other_flags(False)), "alike")
        self.assertEqual(len(parted(wide(False, "abcde"), wide(False, "abcde"))[1]), 4000)

    def test_one_pair_more_is_refused(self):
        self.refuse(wide(True, "abcde"), wide(True, "abcde"))
        self.refuse(wide(True, "abcde"), wide(True, "fghij", rules=self.other_flags(True)))

    def other_flags(self, trap):
        """The rules of a wide tale with the flags f to j for a to e."""
        return renamed(list(wide(trap, "abcde").rules), dict(zip("abcde", "fghij")))

    def test_few_states_of_many_pairs(self):
        self.check(self.turning(3), self.turning(5), "alike")
        self.assertEqual(len(parted(self.turning(3), self.turning(5))[1]), 15 ** 3)
        self.refuse(self.turning(4), self.turning(5))

    def turning(self, count):
        """A tale with a word for each of three things that moves it on through so many places, round and round."""
        places = ["home", "far", "away", "out", "nowhere"][:count]
        rules = [(name, (("at", name, place),), (("move", name, after),))
                 for name in ("x", "y", "z") for place, after in zip(places, places[1:] + places[:1])]
        things = [(name, "home") for name in ("x", "y", "z")]
        return bare(rooms=["home", "far", "away", "out"], things=things, rules=rules)

    def test_apart_with_more_pairs_behind(self):
        rules = [(flag, (), (("set", flag),)) for flag in FULL_FLAGS]
        for flag in ("a", "l"):
            one = bare(flags=FULL_FLAGS, rules=rules, wish=(("is", flag),))
            other = bare(flags=FULL_FLAGS, rules=rules, wish=(("is", "a"), ("not", "a")))
            self.check(one, other, 1)
        self.refuse(bare(flags=FULL_FLAGS, rules=rules), bare(flags=FULL_FLAGS, rules=rules))

    def test_no_pair_of_more_deeds_counts(self):
        # 1935 pairs are come to by at most three deeds, and the very last of them parts the tales;
        # by at most four deeds there are more than 9000.
        moves = [(name + place[0], (), (("move", name, place),)) for name in ("x", "y", "z")
                 for place in ("far", "away", "out", "nowhere")]
        told = {
            "rooms": ["home", "far", "away", "out"], "things": [(name, "home") for name in ("x", "y", "z")],
            "flags": FULL_FLAGS, "rules": moves + [("set" + flag, (), (("set", flag),)) for flag in FULL_FLAGS],
        }
        one = bare(**told, wish=(("is", "j"), ("is", "k"), ("is", "l")))
        other = bare(**told, wish=(("is", "a"), ("not", "a")))
        for first, second in ((one, other), (other, one)):
            self.assertEqual(parted(first, second), ("apart", [("do", "setj"), ("do", "setk"), ("do", "setl")]))


class Told(unittest.TestCase):
    def test_lists_that_are_told_may_be_changed(self):
        told = parted(small(), small())
        told[1].clear()
        self.assertEqual(len(parted(small(), small())[1]), len(Map(small()).states()))
        parted(line(3), line(4))[1].append(("go", "on"))
        self.assertEqual(parted(line(3), line(4)), ("apart", [("go", "on"), ("go", "on")]))


if __name__ == "__main__":
    unittest.main()
