"""[8] and [12]: shortest and all walkthroughs."""

import unittest

from placetale.errors import BadTale, BadText, NoDeed, TaleError, TooMany
from placetale.maps import Map
from placetale.playing import begin, deeds_at, done, is_won, played
from placetale.walks import shortest, walkthroughs
from tests.told import FULL_FLAGS, bare, drawn, full_parts, great, small, wide

STEP = ("do", "step")


def loops(count, **other):
    """A tale of one room with so many ways that lead back into it."""
    ways = [("hall", "way" + "abcdefghijklmnopqrstuvwx"[at], "hall", "") for at in range(count)]
    return bare(**{"ways": ways, "flags": ["won"], "wish": (("is", "won"),), **other})


def fan(first, second, effect, more_ways=(), more_rules=(), **other):
    """From room a as many deeds as first tells to room b, and there as many as second tells, with the effect."""
    letters = "abcdefghijklmnopqrstuvwx"
    ways = [("a", "to" + sign, "b", "") for sign in letters[:first]] + list(more_ways)
    rules = [("do" + sign, (("in", "b"),), (effect,)) for sign in letters[:second]] + list(more_rules)
    return bare(**{"rooms": ["a", "b", "c", "d", "e"], "ways": ways, "rules": rules, "wish": (("in", "e"),), **other})


def rows_of(tale, count):
    """All rows of so many deeds that can be done, in order, with their last states; the wish met at most at the end."""
    rows = [([], begin(tale))]
    for _ in range(count):
        rows = [(row + [deed], done(tale, state, deed))
                for row, state in rows if not is_won(tale, state) for deed in deeds_at(tale, state)]
    return rows


def plainly(tale, most):
    """What walkthroughs tells, or None where it refuses."""
    found = []
    for count in range(most + 1):
        rows = rows_of(tale, count)
        won = [row for row, state in rows if is_won(tale, state)]
        found += won
        if len(rows) - len(won) > 400 or len(found) > 400:
            return None
    return found


class Shortest(unittest.TestCase):
    def test_the_small_tale(self):
        self.assertEqual(shortest(small()), [
            ("take", "lamp"), ("go", "down"), ("do", "rub"), ("drop", "lamp"), ("take", "gold"), ("do", "pull"),
            ("go", "up"), ("go", "out"), ("drop", "gold"),
        ])

    def test_it_is_the_map_s_walk_to_the_state_won_of_the_least_number(self):
        for seed in range(200):
            tale = drawn(seed)
            chart = Map(tale)
            expected = chart.walk_to(chart.won()[0]) if chart.won() else None
            self.assertEqual(shortest(tale), expected, seed)

    def test_of_two_states_won_that_of_the_least_number(self):
        ways = [("a", "z", "b", ""), ("a", "y", "c", ""), ("b", "on", "d", ""), ("c", "on", "d", "")]
        rules = [("say", (("in", "b"),), (("set", "f"),)), ("say", (("in", "c"),), (("set", "f"),))]
        tale = bare(rooms=["a", "b", "c", "d"], ways=ways, flags=["f"], rules=rules, wish=(("is", "f"),))
        self.assertEqual(shortest(tale), [("go", "z"), ("do", "say")])
        tale = bare(rooms=["a", "b", "c", "d"], ways=ways, wish=(("in", "d"),))
        self.assertEqual(shortest(tale), [("go", "z"), ("go", "on")])
        tale = bare(rooms=["a", "b", "c", "d"], ways=ways, wish=(("in", "c"),))
        self.assertEqual(shortest(tale), [("go", "y")])

    def test_won_at_the_beginning(self):
        self.assertEqual(shortest(bare()), [])
        self.assertEqual(shortest(small(wish=(("in", "hall"),))), [])

    def test_won_nowhere(self):
        self.assertIsNone(shortest(small(wish=(("is", "lit"), ("not", "lit")))))
        self.assertIsNone(shortest(bare(flags=["f"], wish=(("is", "f"),))))

    def test_the_greatest_counts(self):
        self.assertEqual(shortest(great()), [("go", "back")] + [STEP] * 12)
        self.assertIsNone(shortest(great(wish=(("is", "a"), ("not", "a")) * 3)))

    def test_just_2000_states(self):
        self.assertEqual(shortest(wide(False, wish=(("at", "x", "far"), ("is", "d")))), [("do", "xb"), ("do", "setd")])

    def test_one_state_more_is_refused(self):
        for wish in ((), (("is", "a"),), (("is", "a"), ("not", "a"))):
            with self.assertRaises(TooMany):
                shortest(wide(True, wish=wish))


class Told(unittest.TestCase):
    def test_won_at_the_beginning(self):
        for most in (0, 1, 2, 50, 10 ** 9):
            self.assertEqual(walkthroughs(bare(), most), [[]])
            self.assertEqual(walkthroughs(small(wish=(("in", "hall"),)), most), [[]])
            self.assertEqual(walkthroughs(loops(24, wish=()), most), [[]])

    def test_no_deeds_and_not_won(self):
        self.assertEqual(walkthroughs(small(), 0), [])
        self.assertEqual(walkthroughs(loops(24), 0), [])

    def test_fewer_deeds_first_then_by_the_order_of_deeds(self):
        ways = [("a", "z", "b", ""), ("a", "y", "d", ""), ("b", "z", "c", ""), ("b", "x", "d", ""), ("c", "z", "d", ""),
                ("c", "y", "d", "")]
        rules = [("jump", (("in", "a"),), (("go", "d"),)), ("jump", (("in", "b"),), (("go", "d"),))]
        tale = bare(rooms=["a", "b", "c", "d"], ways=ways, rules=rules, wish=(("in", "d"),))
        expected = [
            [("go", "y")],
            [("do", "jump")],
            [("go", "z"), ("go", "x")],
            [("go", "z"), ("do", "jump")],
            [("go", "z"), ("go", "z"), ("go", "z")],
            [("go", "z"), ("go", "z"), ("go", "y")],
        ]
        for most, count in enumerate([0, 2, 4, 6, 6, 6]):
            self.assertEqual(walkthroughs(tale, most), expected[:count])

    def test_the_first_deed_that_differs_tells(self):
        ways = [("a", "z", "b", ""), ("a", "y", "c", ""), ("b", "x", "e", ""), ("b", "w", "e", ""), ("c", "z", "e", ""),
                ("c", "y", "e", "")]
        tale = bare(rooms=["a", "b", "c", "d", "e"], ways=ways, wish=(("in", "e"),))
        words = [[word for _, word in row] for row in walkthroughs(tale, 2)]
        self.assertEqual(words, [["z", "x"], ["z", "w"], ["y", "z"], ["y", "y"]])

    def test_none_goes_on_behind_the_wish(self):
        ways = [("a", "on", "b", ""), ("b", "on", "c", ""), ("c", "on", "b", ""), ("b", "back", "a", "")]
        tale = bare(rooms=["a", "b", "c"], ways=ways, wish=(("in", "b"),))
        self.assertEqual(walkthroughs(tale, 5), [[("go", "on")]])

    def test_a_state_may_be_come_to_more_than_once(self):
        ways = [("a", "stay", "a", ""), ("a", "on", "b", "")]
        tale = bare(rooms=["a", "b"], ways=ways, wish=(("in", "b"),))
        self.assertEqual(walkthroughs(tale, 3), [[("go", "stay")] * count + [("go", "on")] for count in range(3)])

    def test_the_wish_met_nowhere(self):
        self.assertEqual(walkthroughs(bare(flags=["f"], wish=(("is", "f"),)), 7), [])
        self.assertEqual(walkthroughs(loops(1), 7), [])

    def test_drawn_tales(self):
        told, refused = 0, 0
        for seed in range(150):
            tale = drawn(seed)
            for most in (0, 1, 2, 4):
                expected = plainly(tale, most)
                if expected is None:
                    refused += 1
                    with self.assertRaises(TooMany):
                        walkthroughs(tale, most)
                else:
                    told += len(expected) > 1
                    self.assertEqual(walkthroughs(tale, most), expected, (seed, most))
        self.assertGreater(told, 20)
        self.assertGreater(refused, 2)

    def test_each_can_be_played(self):
        tale = small(wish=(("is", "open"),))
        rows = walkthroughs(tale, 4)
        self.assertEqual(len(rows), 2)
        for row in rows:
            self.assertEqual([is_won(tale, state) for state in played(tale, row)], [False] * 4 + [True])

    def test_the_greatest_counts(self):
        tale = great(wish=(("is", "a"), ("is", "b"), ("in", "rh"), ("not", "l"), ("at", "tf", "nowhere"), ("is", "b")))
        self.assertEqual(walkthroughs(tale, 2), [])
        self.assertEqual(walkthroughs(tale, 3), [[("go", "back"), STEP, STEP], [STEP, ("go", "back"), STEP],
                                                 [STEP, STEP, ("go", "back")]])
        self.assertEqual(walkthroughs(great(), 4), [])

    def test_the_greatest_counts_that_can_be_told_at_once(self):
        full = bare(**full_parts(wish=(("at", "ta", "ra"),) * 6))
        self.assertEqual(walkthroughs(full, 1), [[("drop", "ta")]])


class Many(unittest.TestCase):
    def refuse(self, tale, most):
        try:
            walkthroughs(tale, most)
            self.fail("told")
        except TaleError as caught:
            self.assertIsInstance(caught, TooMany)
            self.assertNotIsInstance(caught, (BadTale, BadText, NoDeed))

    def test_just_400_rows(self):
        self.assertEqual(walkthroughs(fan(20, 20, ("go", "c")), 2), [])
        self.assertEqual(walkthroughs(fan(20, 20, ("go", "c")), 90), [])
        self.assertEqual(walkthroughs(loops(20), 2), [])

    def test_one_row_more_is_refused(self):
        tale = fan(20, 20, ("go", "c"), [("a", "off", "d", ""), ("d", "off", "c", "")])
        self.assertEqual(walkthroughs(tale, 1), [])
        for most in (2, 3, 1000):
            self.refuse(tale, most)

    def test_rows_of_other_counts_are_not_added_up(self):
        self.assertEqual(walkthroughs(fan(20, 20, ("go", "c"), [("c", "off", "d", "")]), 3), [])

    def test_rows_from_which_the_wish_can_not_be_come_to_count(self):
        tale = loops(24, rules=[("win", (), (("set", "won"),))])
        self.assertEqual(walkthroughs(tale, 1), [[("do", "win")]])
        self.refuse(tale, 2)
        self.refuse(bare(ways=loops(24).ways, flags=["f"], wish=(("is", "f"),)), 2)

    def test_rows_that_are_won_at_their_end_do_not_count_as_open(self):
        tale = fan(20, 20, ("go", "c"), [("a", "off", "d", ""), ("d", "off", "e", "")])
        self.assertEqual(walkthroughs(tale, 2), [[("go", "off"), ("go", "off")]])

    def test_rows_that_are_won_ahead_of_their_end_do_not_count(self):
        tale = fan(20, 20, ("go", "c"), [("a", "off", "e", ""), ("e", "off", "c", "")])
        self.assertEqual(walkthroughs(tale, 5), [[("go", "off")]])

    def test_just_400_walkthroughs(self):
        told = walkthroughs(fan(20, 20, ("go", "e")), 2)
        self.assertEqual(len(told), 400)
        self.assertEqual(told[0], [("go", "toa"), ("do", "doa")])
        self.assertEqual(told[399], [("go", "tot"), ("do", "dot")])

    def test_one_walkthrough_more_is_refused(self):
        tale = fan(20, 20, ("go", "e"), [("a", "off", "d", ""), ("d", "off", "e", "")])
        self.assertEqual(walkthroughs(tale, 1), [])
        self.refuse(tale, 2)

    def test_walkthroughs_of_all_counts_are_added_up(self):
        sooner = fan(20, 20, ("go", "e"), [("a", "off", "e", "")])
        self.assertEqual(len(walkthroughs(sooner, 1)), 1)
        self.refuse(sooner, 2)
        later = fan(20, 20, ("go", "e"), [("a", "off", "c", ""), ("c", "off", "d", ""), ("d", "off", "e", "")])
        self.assertEqual(len(walkthroughs(later, 2)), 400)
        self.refuse(later, 3)

    def test_more_than_2000_states_are_no_hindrance(self):
        rules = [(flag, (), (("set", flag),)) for flag in FULL_FLAGS]
        tale = bare(flags=FULL_FLAGS, rules=rules, wish=(("is", "b"), ("is", "l")))
        with self.assertRaises(TooMany):
            shortest(tale)
        self.assertEqual(walkthroughs(tale, 0), [])
        self.assertEqual(walkthroughs(tale, 1), [])
        self.assertEqual(walkthroughs(tale, 2), [[("do", "b"), ("do", "l")], [("do", "l"), ("do", "b")]])
        self.assertEqual(walkthroughs(wide(True, wish=()), 9), [[]])

    def test_great_counts_of_deeds(self):
        self.assertEqual(walkthroughs(loops(1), 10 ** 12), [])
        ring = [("a", "on", "b", ""), ("b", "on", "c", ""), ("c", "on", "a", "")]
        self.assertEqual(walkthroughs(bare(rooms=["a", "b", "c", "d"], ways=ring, wish=(("in", "d"),)), 10 ** 12), [])
        out = ring + [("c", "out", "d", "")]
        tale = bare(rooms=["a", "b", "c", "d"], ways=out, wish=(("in", "d"),))
        told = walkthroughs(tale, 1200)
        self.assertEqual([len(row) for row in told], list(range(3, 1201, 3)))
        self.assertEqual(len(walkthroughs(tale, 1202)), 400)
        self.refuse(tale, 1203)

    def test_rows_that_come_round_late(self):
        count = [("tick", (("not", "d"),), (("set", "d"),)), ("tick", (("not", "c"),), (("set", "c"), ("clear", "d"))),
                 ("tick", (("not", "b"),), (("set", "b"), ("clear", "c"), ("clear", "d"))),
                 ("tick", (("not", "a"),), (("set", "a"), ("clear", "b"), ("clear", "c"), ("clear", "d")))]
        wish = tuple(("is", flag) for flag in "abcd")
        self.assertEqual(walkthroughs(bare(flags=list("abcd"), rules=count, wish=wish), 10 ** 9), [[("do", "tick")] * 15])
        back = [("tick", (), tuple(("clear", flag) for flag in "abcd"))]
        never = (("is", "a"), ("not", "a"))
        self.assertEqual(walkthroughs(bare(flags=list("abcd"), rules=count + back, wish=never), 10 ** 9), [])


if __name__ == "__main__":
    unittest.main()
