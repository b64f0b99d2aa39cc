"""[9] to [12]: dead states, spoiling deeds, tales that are barred, needful deeds."""

import unittest

from placetale.ends import barred, dead, needful, spoils
from placetale.errors import BadTale, BadText, NoDeed, TaleError, TooMany
from placetale.maps import Map
from placetale.playing import begin, deeds_at, done, is_won, played
from placetale.tales import Tale
from placetale.walks import shortest, walkthroughs
from tests.told import bare, drawn, full_parts, great, small, wide

STEP = ("do", "step")
NEVER = (("is", "a"), ("not", "a"))


def pit(**other):
    """A tale of a hill that one can fall from for ever, in two places; at the top is the wish."""
    return bare(**{
        "rooms": ["foot", "slope", "top", "pit", "cave"],
        "ways": [
            ("foot", "jump", "pit", ""), ("foot", "up", "slope", ""), ("slope", "up", "top", ""),
            ("slope", "down", "foot", ""), ("slope", "jump", "pit", ""), ("pit", "on", "cave", ""),
            ("cave", "on", "pit", ""), ("top", "jump", "cave", ""), ("top", "down", "slope", ""),
        ],
        "wish": (("in", "top"),),
        **other,
    })


def reached(tale, state, left_out=None):
    """All states that deeds can come to from a state, without one deed."""
    found = [state]
    for at in found:
        for deed in deeds_at(tale, at):
            after = done(tale, at, deed)
            if deed != left_out and after not in found:
                found.append(after)
    return found


def can_be_won(tale, state, left_out=None):
    return any(is_won(tale, after) for after in reached(tale, state, left_out))


def all_deeds_of(tale):
    """All deeds that are done anywhere on the map, in order of the tale's parts."""
    chart = Map(tale)
    at_hand = {deed for number in range(len(chart.states())) for deed, _ in chart.steps(number)}
    words = [("go", word) for _, word, _, _ in tale.ways]
    words += [(kind, name) for kind in ("take", "drop") for name, _ in tale.things]
    words += [("do", word) for word, _, _ in tale.rules]
    return [deed for at, deed in enumerate(words) if deed in at_hand and deed not in words[:at]]


class Dead(unittest.TestCase):
    def test_a_tale_with_a_pit(self):
        self.assertEqual([state[0] for state in dead(pit())], ["pit", "cave"])

    def test_by_their_numbers(self):
        ways = [("top", "b", "top", ""), ("foot", "c", "cave", ""), ("foot", "b", "pit", ""), ("foot", "a", "top", "")]
        self.assertEqual([state[0] for state in dead(pit(ways=ways))], ["pit", "cave"])
        ways = [("foot", "c", "cave", ""), ("foot", "b", "pit", ""), ("foot", "a", "top", "")]
        self.assertEqual([state[0] for state in dead(pit(ways=ways))], ["cave", "pit"])

    def test_states_behind_the_wish(self):
        self.assertEqual([state[0] for state in dead(pit(wish=(("in", "foot"),)))], ["pit", "cave"])
        self.assertEqual(dead(pit(wish=(("in", "cave"),))), [])

    def test_a_state_won_is_live_though_nothing_comes_behind(self):
        self.assertEqual(dead(bare()), [])
        ways = [("a", "on", "b", "")]
        self.assertEqual(dead(bare(rooms=["a", "b"], ways=ways, wish=(("in", "b"),))), [])
        self.assertEqual(dead(bare(rooms=["a", "b"], ways=ways, wish=(("in", "a"),))), [("b", (), ())])

    def test_all_are_dead_where_the_wish_can_not_be_come_to(self):
        tale = small(wish=(("is", "lit"), ("not", "lit")))
        self.assertEqual(dead(tale), Map(tale).states())

    def test_none_is_dead(self):
        self.assertEqual(dead(small()), [])

    def test_drawn_tales(self):
        some = 0
        for seed in range(300):
            tale = drawn(seed)
            states = Map(tale).states()
            expected = [state for state in states if not can_be_won(tale, state)]
            some += 0 < len(expected) < len(states)
            self.assertEqual(dead(tale), expected, seed)
        self.assertGreater(some, 15)

    def test_the_greatest_counts(self):
        tale = great()
        told = dead(tale)
        expected = [state for state in Map(tale).states() if state[1][5] != "nowhere"]
        self.assertEqual(told, expected)
        self.assertEqual(len(told), 864)
        full = Tale(**full_parts())
        self.assertEqual(dead(full), Map(full).states())


class Spoils(unittest.TestCase):
    def test_a_tale_with_a_pit(self):
        self.assertEqual(spoils(pit()), [
            ([], ("go", "jump")),
            ([("go", "up")], ("go", "jump")),
            ([("go", "up"), ("go", "up")], ("go", "jump")),
        ])

    def test_several_deeds_of_a_state_in_order(self):
        ways = [("foot", "c", "cave", ""), ("foot", "b", "slope", ""), ("foot", "a", "pit", ""), ("slope", "a", "top", ""),
                ("slope", "c", "pit", "")]
        rules = [("die", (), (("go", "cave"),)), ("live", (("in", "foot"),), (("go", "foot"),))]
        told = spoils(pit(ways=ways, rules=rules))
        self.assertEqual(told, [
            ([], ("go", "c")), ([], ("go", "a")), ([], ("do", "die")),
            ([("go", "b")], ("go", "c")), ([("go", "b")], ("do", "die")),
            ([("go", "b"), ("go", "a")], ("do", "die")),
        ])

    def test_deeds_of_dead_states_are_not_told(self):
        self.assertNotIn(("go", "on"), [deed for _, deed in spoils(pit())])

    def test_none_where_none_is_dead(self):
        self.assertEqual(spoils(small()), [])
        self.assertEqual(spoils(bare()), [])

    def test_none_where_none_is_live(self):
        self.assertEqual(spoils(small(wish=(("is", "lit"), ("not", "lit")))), [])

    def test_drawn_tales(self):
        some = 0
        for seed in range(300):
            tale = drawn(seed)
            chart = Map(tale)
            live = {state: can_be_won(tale, state) for state in chart.states()}
            expected = []
            for number, state in enumerate(chart.states()):
                for deed in deeds_at(tale, state):
                    if live[state] and not live[done(tale, state, deed)]:
                        expected.append((chart.walk_to(number), deed))
            some += len(expected) > 1
            self.assertEqual(spoils(tale), expected, seed)
        self.assertGreater(some, 10)

    def test_the_greatest_counts(self):
        tale = great()
        told = spoils(tale)
        self.assertEqual(len(told), 624)
        self.assertEqual(told[0], ([STEP], ("do", "losea")))
        self.assertEqual(told[-1][1], ("do", "losel"))
        lost = dead(tale)
        for walk, deed in told:
            states = played(tale, walk + [deed])
            self.assertNotIn(states[-2], lost)
            self.assertIn(states[-1], lost)

    def test_walks_are_lists_of_their_own(self):
        tale = pit(rules=[("die", (), (("go", "cave"),))])
        told, again = spoils(tale), spoils(tale)
        self.assertEqual(told[2][0], told[3][0])
        told[2][0].append(("go", "on"))
        told[0][0].append(("go", "on"))
        self.assertEqual(told[3], again[3])
        self.assertEqual(told[1], again[1])
        self.assertEqual(spoils(tale), again)


class Barred(unittest.TestCase):
    def test_a_small_tale(self):
        tale = bare(rooms=["a", "b", "c"], ways=[("a", "on", "b", ""), ("a", "stay", "a", ""), ("b", "on", "a", "")],
                    wish=(("in", "c"),))
        self.assertEqual(barred(tale), [
            (("a", (), ()), [(("go", "on"), 1), (("go", "stay"), 0)]),
            (("b", (), ()), [(("go", "on"), 0)]),
        ])

    def test_a_state_without_deeds(self):
        self.assertEqual(barred(bare(flags=["f"], wish=(("is", "f"),))), [(("hall", (), ()), [])])

    def test_none_where_the_wish_can_be_come_to(self):
        for tale in (bare(), small(), pit(), pit(wish=(("in", "cave"),)), great()):
            self.assertIsNone(barred(tale))

    def test_drawn_tales(self):
        some = 0
        for seed in range(300):
            tale = drawn(seed)
            chart = Map(tale)
            told = barred(tale)
            if any(is_won(tale, state) for state in chart.states()):
                self.assertIsNone(told)
                continue
            some += len(told) > 1
            states = [state for state, _ in told]
            self.assertEqual(states, chart.states())
            for number, (state, steps) in enumerate(told):
                self.assertEqual(steps, chart.steps(number))
                self.assertEqual([deed for deed, _ in steps], deeds_at(tale, state))
                self.assertEqual([states[behind] for _, behind in steps], [done(tale, state, deed) for deed, _ in steps])
        self.assertGreater(some, 20)

    def test_the_greatest_counts(self):
        full = Tale(**full_parts())
        told = barred(full)
        self.assertEqual(len(told), 64)
        self.assertEqual(told[0], (begin(full), [(("drop", "t" + sign), at + 1) for at, sign in enumerate("abcdef")]))
        tale = great(wish=(("is", "a"), ("not", "a")) * 3)
        self.assertEqual([state for state, _ in barred(tale)], Map(tale).states())

    def test_just_2000_states(self):
        self.assertEqual(len(barred(wide(False, wish=NEVER))), 2000)


class Needful(unittest.TestCase):
    def test_a_tale_with_a_pit(self):
        self.assertEqual(needful(pit()), [("go", "up")])

    def test_in_the_order_of_deeds_and_not_as_they_are_done(self):
        self.assertEqual(needful(small()), [
            ("go", "down"), ("go", "up"), ("go", "out"), ("take", "lamp"), ("take", "gold"), ("drop", "lamp"),
            ("drop", "gold"), ("do", "rub"), ("do", "pull"),
        ])
        ways = [("c", "z", "d", ""), ("b", "y", "c", ""), ("a", "x", "b", "")]
        tale = bare(rooms=["a", "b", "c", "d"], ways=ways, wish=(("in", "d"),))
        self.assertEqual(needful(tale), [("go", "z"), ("go", "y"), ("go", "x")])

    def test_a_deed_that_another_stands_in_for_is_not_needful(self):
        ways = [("a", "z", "b", ""), ("a", "y", "b", ""), ("b", "x", "c", "")]
        tale = bare(rooms=["a", "b", "c"], ways=ways, wish=(("in", "c"),))
        self.assertEqual(needful(tale), [("go", "x")])
        tale = bare(rooms=["a", "b", "c"], ways=ways, rules=[("fly", (), (("go", "c"),))], wish=(("in", "c"),))
        self.assertEqual(needful(tale), [])

    def test_a_longer_way_round_stands_in_too(self):
        ways = [("a", "on", "d", ""), ("a", "off", "b", ""), ("b", "off", "c", ""), ("c", "off", "d", "")]
        tale = bare(rooms=["a", "b", "c", "d"], ways=ways, wish=(("in", "d"),))
        self.assertEqual(needful(tale), [])

    def test_the_same_word_in_two_rooms_is_one_deed(self):
        ways = [("a", "x", "b", ""), ("a", "y", "c", ""), ("b", "y", "d", ""), ("c", "z", "d", "")]
        tale = bare(rooms=["a", "b", "c", "d"], ways=ways, wish=(("in", "d"),))
        self.assertEqual(needful(tale), [("go", "y")])

    def test_deeds_behind_the_wish_do_not_count(self):
        ways = [("a", "on", "b", ""), ("b", "on", "a", ""), ("b", "off", "a", "")]
        self.assertEqual(needful(bare(rooms=["a", "b"], ways=ways, wish=(("in", "b"),))), [("go", "on")])

    def test_won_at_the_beginning(self):
        self.assertEqual(needful(bare()), [])
        self.assertEqual(needful(pit(wish=(("in", "foot"),))), [])

    def test_no_walkthrough_at_all(self):
        self.assertIsNone(needful(bare(flags=["f"], wish=(("is", "f"),))))
        self.assertIsNone(needful(small(wish=(("is", "lit"), ("not", "lit")))))

    def test_drawn_tales(self):
        some = 0
        for seed in range(300):
            tale = drawn(seed)
            start = begin(tale)
            if not can_be_won(tale, start):
                self.assertIsNone(needful(tale))
                continue
            told = needful(tale)
            some += len(told) > 1
            self.assertEqual(told, [deed for deed in all_deeds_of(tale) if not can_be_won(tale, start, deed)], seed)
            try:
                for row in walkthroughs(tale, len(shortest(tale)) + 2):
                    self.assertLessEqual(set(told), set(row))
            except TooMany:
                pass
        self.assertGreater(some, 8)

    def test_the_greatest_counts(self):
        self.assertEqual(needful(great()), [STEP])
        self.assertIsNone(needful(Tale(**full_parts())))
        drop = tuple(("at", name, "ra") for name, _ in full_parts()["things"])
        self.assertEqual(needful(bare(**full_parts(wish=drop))), [("drop", "t" + sign) for sign in "abcdef"])


class Many(unittest.TestCase):
    def test_just_2000_states(self):
        tale = wide(False, wish=(("at", "x", "far"), ("is", "d")))
        self.assertEqual(dead(tale), [])
        self.assertEqual(spoils(tale), [])
        self.assertIsNone(barred(tale))
        self.assertEqual(needful(tale), [("do", "xb"), ("do", "setd")])
        self.assertEqual(len(dead(wide(False, wish=NEVER))), 2000)

    def test_one_state_more_is_refused(self):
        for ask in (dead, spoils, barred, needful):
            for wish in ((), (("is", "a"),), NEVER):
                try:
                    ask(wide(True, wish=wish))
                    self.fail("told")
                except TaleError as caught:
                    self.assertIsInstance(caught, TooMany)
                    self.assertNotIsInstance(caught, (BadTale, BadText, NoDeed))


if __name__ == "__main__":
    unittest.main()
