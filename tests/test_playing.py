"""[3] to [6]: states, needs, the wish, deeds and their order."""

import unittest

from placetale.errors import BadTale, BadText, NoDeed, TaleError, TooMany
from placetale.playing import begin, deeds_at, done, is_won, played
from tests.told import bare, parts, small

START = ("hall", ("hall", "cellar", "nowhere"), ())


class States(unittest.TestCase):
    def test_the_beginning(self):
        self.assertEqual(begin(small()), START)

    def test_the_beginning_in_the_tale_s_order(self):
        tale = bare(rooms=["z", "a"], hands=2, things=[("m", "a"), ("b", "hand"), ("c", "z"), ("a", "nowhere")])
        self.assertEqual(begin(tale), ("z", ("a", "hand", "z", "nowhere"), ()))

    def test_set_flags_stand_in_the_tale_s_order(self):
        tale = bare(flags=["c", "a", "b"], rules=[(name, (), (("set", name),)) for name in "abc"])
        states = played(tale, [("do", "b"), ("do", "a"), ("do", "c")])
        self.assertEqual([state[2] for state in states], [(), ("b",), ("a", "b"), ("c", "a", "b")])


class Needs(unittest.TestCase):
    def check(self, needs, state, expected):
        """The needs as the wish, and as the needs of a rule."""
        tale = small(wish=needs, rules=[("say", needs, (("go", "hall"),))])
        self.assertIs(is_won(tale, state), expected)
        self.assertEqual(("do", "say") in deeds_at(tale, state), expected)

    def test_in(self):
        self.check((("in", "hall"),), START, True)
        self.check((("in", "cellar"),), START, False)
        self.check((("in", "cellar"),), ("cellar", START[1], ()), True)

    def test_at(self):
        self.check((("at", "lamp", "hall"),), START, True)
        self.check((("at", "gold", "hall"),), START, False)
        self.check((("at", "gold", "cellar"),), START, True)
        self.check((("at", "ghost", "nowhere"),), START, True)
        self.check((("at", "lamp", "nowhere"),), START, False)
        self.check((("at", "lamp", "hand"),), START, False)
        self.check((("at", "lamp", "hand"),), ("hall", ("hand", "cellar", "nowhere"), ()), True)

    def test_at_does_not_look_where_one_is(self):
        self.check((("at", "lamp", "hall"),), ("cellar", ("hand", "cellar", "nowhere"), ()), False)

    def test_is_and_not(self):
        lit = ("hall", START[1], ("lit",))
        self.check((("is", "lit"),), START, False)
        self.check((("is", "lit"),), lit, True)
        self.check((("not", "lit"),), START, True)
        self.check((("not", "lit"),), lit, False)
        self.check((("is", "open"),), lit, False)
        self.check((("not", "open"),), lit, True)

    def test_no_needs_are_always_met(self):
        self.check((), START, True)
        self.check((), ("garden", ("hand", "hand", "hand"), ("lit", "open")), True)

    def test_several_needs(self):
        met = (("in", "hall"), ("at", "lamp", "hall"), ("not", "lit"), ("not", "open"))
        self.check(met, START, True)
        for need in (("in", "garden"), ("at", "lamp", "hand"), ("is", "lit"), ("is", "open")):
            for at in range(5):
                self.check(met[:at] + (need,) + met[at:], START, False)

    def test_needs_that_gainsay_each_other(self):
        self.check((("is", "lit"), ("not", "lit")), START, False)
        self.check((("is", "lit"), ("not", "lit")), ("hall", START[1], ("lit",)), False)


class Deeds(unittest.TestCase):
    def refuse(self, tale, state, deed):
        with self.assertRaises(NoDeed, msg=str(deed)):
            done(tale, state, deed)
        self.assertNotIn(deed, deeds_at(tale, state))

    def do(self, tale, state, deed, expected):
        self.assertEqual(done(tale, state, deed), expected)
        self.assertIn(deed, deeds_at(tale, state))

    def test_the_refusal_is_no_deed_and_no_other(self):
        try:
            done(small(), START, ("go", "up"))
            self.fail("done")
        except TaleError as caught:
            self.assertIsInstance(caught, NoDeed)
            self.assertNotIsInstance(caught, (BadTale, BadText, TooMany))

    def test_go(self):
        self.do(small(), START, ("go", "down"), ("cellar", START[1], ()))
        self.do(small(), ("cellar", START[1], ("lit",)), ("go", "up"), ("hall", START[1], ("lit",)))

    def test_go_leaves_what_lies_and_carries_what_is_held(self):
        state = ("hall", ("hand", "hall", "nowhere"), ("lit",))
        self.do(small(), state, ("go", "down"), ("cellar", ("hand", "hall", "nowhere"), ("lit",)))

    def test_go_where_the_room_has_no_such_way(self):
        for word in ("up", "sideways", "", "cellar", "hall", "rub", "Down"):
            self.refuse(small(), START, ("go", word))

    def test_go_by_a_way_with_a_flag(self):
        self.refuse(small(), START, ("go", "out"))
        self.refuse(small(), ("hall", START[1], ("lit",)), ("go", "out"))
        self.do(small(), ("hall", START[1], ("open",)), ("go", "out"), ("garden", START[1], ("open",)))

    def test_go_to_the_same_room(self):
        tale = bare(ways=[("hall", "round", "hall", "")])
        self.do(tale, begin(tale), ("go", "round"), begin(tale))

    def test_one_word_leads_from_each_room_by_its_own_way(self):
        tale = bare(rooms=["a", "b", "c"], ways=[("a", "on", "b", ""), ("b", "on", "c", ""), ("c", "on", "a", "")])
        rooms = [state[0] for state in played(tale, [("go", "on")] * 4)]
        self.assertEqual(rooms, ["a", "b", "c", "a", "b"])

    def test_take(self):
        self.do(small(), START, ("take", "lamp"), ("hall", ("hand", "cellar", "nowhere"), ()))
        cellar = ("cellar", START[1], ("lit",))
        self.do(small(), cellar, ("take", "gold"), ("cellar", ("hall", "hand", "nowhere"), ("lit",)))

    def test_take_what_is_not_in_the_room(self):
        for name in ("gold", "ghost", "sword", "", "hall", "down", "hand"):
            self.refuse(small(), START, ("take", name))
        self.refuse(small(), ("hall", ("hand", "cellar", "nowhere"), ()), ("take", "lamp"))
        self.refuse(small(hands=6), ("hall", ("hand", "cellar", "nowhere"), ()), ("take", "lamp"))

    def test_take_with_full_hands(self):
        things = [("a", "hall"), ("b", "hall"), ("c", "hall"), ("d", "hall")]
        for hands in range(4):
            tale = bare(hands=hands, things=things)
            held = ("hand",) * hands
            self.refuse(tale, ("hall", held + ("hall",) * (4 - hands), ()), ("take", "d"))
            if hands > 0:
                few = held[1:] + ("hall",) * (5 - hands)
                self.do(tale, ("hall", few, ()), ("take", "d"), ("hall", few[:3] + ("hand",), ()))

    def test_take_with_more_in_the_hand_than_hands_tells(self):
        tale = small(things=[("lamp", "hall"), ("gold", "cellar"), ("ghost", "nowhere"), ("sword", "hall")])
        self.refuse(tale, ("hall", ("hand", "hand", "nowhere", "hall"), ()), ("take", "sword"))

    def test_drop(self):
        self.do(small(), ("cellar", ("hand", "cellar", "nowhere"), ("lit",)), ("drop", "lamp"),
                ("cellar", ("cellar", "cellar", "nowhere"), ("lit",)))

    def test_drop_with_more_in_the_hand_than_hands_tells(self):
        self.do(small(), ("hall", ("hand", "hand", "hand"), ()), ("drop", "gold"),
                ("hall", ("hand", "hall", "hand"), ()))

    def test_drop_what_is_not_in_the_hand(self):
        for name in ("lamp", "gold", "ghost", "sword", "", "hall", "hand"):
            self.refuse(small(), START, ("drop", name))

    def test_do(self):
        held = ("hall", ("hand", "cellar", "nowhere"), ())
        self.do(small(), held, ("do", "rub"), ("hall", held[1], ("lit",)))

    def test_do_where_no_rule_of_the_word_has_its_needs_met(self):
        for word in ("rub", "pull", "down", "", "say", "lamp"):
            self.refuse(small(), START, ("do", word))

    def test_do_the_first_rule_whose_needs_are_met(self):
        rules = [
            ("say", (("is", "b"),), (("set", "c"),)),
            ("call", (), (("go", "far"),)),
            ("say", (("not", "a"),), (("set", "a"),)),
            ("say", (), (("set", "b"),)),
            ("say", (("is", "a"),), (("go", "far"),)),
        ]
        tale = bare(rooms=["near", "far"], flags=["a", "b", "c"], rules=rules)
        states = played(tale, [("do", "say")] * 4)
        self.assertEqual([state[2] for state in states], [(), ("a",), ("a", "b"), ("a", "b", "c"), ("a", "b", "c")])
        self.assertEqual([state[0] for state in states], ["near"] * 5)
        self.do(tale, states[1], ("do", "call"), ("far", (), ("a",)))

    def test_the_effect_go(self):
        tale = small(rules=[("fly", (), (("go", "garden"),))])
        self.do(tale, ("cellar", START[1], ("lit",)), ("do", "fly"), ("garden", START[1], ("lit",)))

    def test_the_effect_move(self):
        for place in ("hall", "garden", "hand", "nowhere"):
            tale = small(rules=[("say", (), (("move", "gold", place),))])
            self.do(tale, START, ("do", "say"), ("hall", ("hall", place, "nowhere"), ()))

    def test_move_puts_in_the_hand_beyond_hands(self):
        tale = small(hands=0, rules=[("say", (), tuple(("move", name, "hand") for name in ("lamp", "gold", "ghost")))])
        self.do(tale, START, ("do", "say"), ("hall", ("hand", "hand", "hand"), ()))

    def test_the_effects_set_and_clear(self):
        tale = bare(flags=["a", "b"], rules=[("on", (), (("set", "a"),)), ("off", (), (("clear", "a"),))])
        self.do(tale, ("hall", (), ()), ("do", "on"), ("hall", (), ("a",)))
        self.do(tale, ("hall", (), ("b",)), ("do", "on"), ("hall", (), ("a", "b")))
        self.do(tale, ("hall", (), ("a", "b")), ("do", "on"), ("hall", (), ("a", "b")))
        self.do(tale, ("hall", (), ("a", "b")), ("do", "off"), ("hall", (), ("b",)))
        self.do(tale, ("hall", (), ("b",)), ("do", "off"), ("hall", (), ("b",)))

    def test_effects_come_in_turn(self):
        effects = (("set", "lit"), ("move", "gold", "hand"), ("go", "garden"), ("clear", "lit"),
                   ("move", "gold", "nowhere"), ("go", "cellar"))
        tale = small(rules=[("say", (), effects), ("back", (), effects[::-1])])
        self.do(tale, START, ("do", "say"), ("cellar", ("hall", "nowhere", "nowhere"), ()))
        self.do(tale, START, ("do", "back"), ("garden", ("hall", "hand", "nowhere"), ("lit",)))

    def test_needs_are_looked_at_ahead_of_the_effects(self):
        rules = [("say", (("not", "a"),), (("set", "a"), ("set", "b"))), ("say", (("is", "a"),), (("set", "c"),))]
        tale = bare(flags=["a", "b", "c"], rules=rules)
        self.do(tale, begin(tale), ("do", "say"), ("hall", (), ("a", "b")))

    def test_words_of_ways_and_rules_are_apart(self):
        tale = bare(rooms=["a", "b"], ways=[("a", "climb", "b", "")], rules=[("jump", (), (("go", "b"),))])
        self.assertEqual(deeds_at(tale, begin(tale)), [("go", "climb"), ("do", "jump")])
        self.refuse(tale, begin(tale), ("do", "climb"))
        self.refuse(tale, begin(tale), ("go", "jump"))

    def test_another_first_text(self):
        for kind in ("", "look", "Go", "gos", "move", "down", "lamp"):
            for name in ("down", "lamp", "rub", ""):
                self.refuse(small(), START, (kind, name))


class Played(unittest.TestCase):
    def test_no_deeds(self):
        self.assertEqual(played(small(), []), [START])

    def test_several_deeds(self):
        deeds = [("take", "lamp"), ("do", "rub"), ("go", "down"), ("do", "pull"), ("drop", "lamp"), ("take", "gold"),
                 ("go", "up"), ("go", "out"), ("drop", "gold")]
        states = played(small(), deeds)
        self.assertEqual(states, [
            START,
            ("hall", ("hand", "cellar", "nowhere"), ()),
            ("hall", ("hand", "cellar", "nowhere"), ("lit",)),
            ("cellar", ("hand", "cellar", "nowhere"), ("lit",)),
            ("cellar", ("hand", "cellar", "nowhere"), ("lit", "open")),
            ("cellar", ("cellar", "cellar", "nowhere"), ("lit", "open")),
            ("cellar", ("cellar", "hand", "nowhere"), ("lit", "open")),
            ("hall", ("cellar", "hand", "nowhere"), ("lit", "open")),
            ("garden", ("cellar", "hand", "nowhere"), ("lit", "open")),
            ("garden", ("cellar", "garden", "nowhere"), ("lit", "open")),
        ])
        self.assertEqual([is_won(small(), state) for state in states], [False] * 9 + [True])

    def test_the_wish_ends_nothing(self):
        tale = bare(rooms=["a", "b"], ways=[("a", "on", "b", ""), ("b", "on", "a", "")], wish=())
        self.assertEqual(len(played(tale, [("go", "on")] * 5)), 6)

    def test_a_deed_that_can_not_be_done(self):
        good = [("take", "lamp"), ("go", "down")]
        for at in range(3):
            with self.assertRaises(NoDeed):
                played(small(), good[:at] + [("take", "ghost")] + good[at:])

    def test_deeds_are_not_changed(self):
        deeds = [("take", "lamp"), ("do", "rub")]
        played(small(), deeds)
        self.assertEqual(deeds, [("take", "lamp"), ("do", "rub")])


class Order(unittest.TestCase):
    def test_the_kinds_and_the_tale_s_order(self):
        tale = bare(
            hands=6,
            ways=[("hall", "z", "hall", ""), ("hall", "a", "hall", ""), ("hall", "m", "hall", "")],
            things=[("y", "hall"), ("h", "hand"), ("b", "hall"), ("a", "hand")],
            rules=[(word, (), (("go", "hall"),)) for word in ("w", "c", "v")],
        )
        self.assertEqual(deeds_at(tale, begin(tale)), [
            ("go", "z"), ("go", "a"), ("go", "m"), ("take", "y"), ("take", "b"), ("drop", "h"), ("drop", "a"),
            ("do", "w"), ("do", "c"), ("do", "v"),
        ])

    def test_go_by_the_words_as_they_come_first(self):
        ways = [("b", "north", "a", ""), ("b", "south", "a", ""), ("a", "south", "b", ""), ("a", "west", "b", ""),
                ("a", "north", "b", "")]
        tale = bare(rooms=["a", "b"], ways=ways)
        self.assertEqual(deeds_at(tale, begin(tale)), [("go", "north"), ("go", "south"), ("go", "west")])
        self.assertEqual(deeds_at(tale, ("b", (), ())), [("go", "north"), ("go", "south")])

    def test_a_word_counts_as_first_where_it_can_not_be_gone_by(self):
        ways = [("b", "late", "a", ""), ("a", "early", "b", ""), ("a", "late", "b", "")]
        tale = bare(rooms=["a", "b"], ways=ways)
        self.assertEqual(deeds_at(tale, begin(tale)), [("go", "late"), ("go", "early")])

    def test_do_by_the_words_as_they_come_first_each_once(self):
        go = (("go", "hall"),)
        rules = [("b", (("is", "x"),), go), ("c", (), go), ("a", (), go), ("c", (), go), ("b", (), go)]
        tale = bare(flags=["x"], rules=rules)
        self.assertEqual(deeds_at(tale, begin(tale)), [("do", "b"), ("do", "c"), ("do", "a")])

    def test_no_deeds(self):
        self.assertEqual(deeds_at(bare(), begin(bare())), [])

    def test_the_deeds_of_the_small_tale(self):
        self.assertEqual(deeds_at(small(), START), [("go", "down"), ("take", "lamp")])
        state = ("hall", ("hand", "hall", "nowhere"), ("lit", "open"))
        self.assertEqual(deeds_at(small(), state), [("go", "down"), ("go", "out"), ("drop", "lamp"), ("do", "rub")])


class Told(unittest.TestCase):
    def test_lists_that_are_told_may_be_changed(self):
        tale = small()
        deeds_at(tale, START).clear()
        self.assertEqual(deeds_at(tale, START), [("go", "down"), ("take", "lamp")])
        played(tale, [("take", "lamp")]).clear()
        self.assertEqual(len(played(tale, [("take", "lamp")])), 2)

    def test_states_are_tuples(self):
        for state in played(small(), [("take", "lamp"), ("do", "rub"), ("drop", "lamp"), ("go", "down")]):
            self.assertIs(type(state), tuple)
            self.assertEqual([type(part) for part in state], [str, tuple, tuple])

    def test_playing_changes_nothing(self):
        told = parts()
        tale = small(**told)
        first = deeds_at(tale, START)
        played(tale, [("take", "lamp"), ("do", "rub"), ("go", "down")])
        self.assertEqual(begin(tale), START)
        self.assertEqual(deeds_at(tale, START), first)
        self.assertEqual(told, parts())


if __name__ == "__main__":
    unittest.main()
