"""[7]: maps."""

import unittest

from placetale.errors import BadTale, BadText, NoDeed, TaleError, TooMany
from placetale.maps import Map
from placetale.playing import begin, deeds_at, done, is_won, played
from tests.told import bare, small, wide


class Numbered(unittest.TestCase):
    def test_a_map_of_one_state(self):
        chart = Map(bare())
        self.assertEqual(chart.states(), [("hall", (), ())])
        self.assertEqual(chart.steps(0), [])
        self.assertEqual(chart.walk_to(0), [])
        self.assertEqual(chart.won(), [0])

    def test_a_small_map(self):
        tale = bare(
            hands=1,
            rooms=["a", "b"],
            ways=[("a", "on", "b", ""), ("b", "on", "a", ""), ("a", "stay", "a", "")],
            things=[("x", "a")],
            wish=(("at", "x", "b"),),
        )
        chart = Map(tale)
        self.assertEqual(chart.states(), [
            ("a", ("a",), ()), ("b", ("a",), ()), ("a", ("hand",), ()), ("b", ("hand",), ()), ("b", ("b",), ()),
            ("a", ("b",), ()),
        ])
        self.assertEqual([chart.steps(number) for number in range(6)], [
            [(("go", "on"), 1), (("go", "stay"), 0), (("take", "x"), 2)],
            [(("go", "on"), 0)],
            [(("go", "on"), 3), (("go", "stay"), 2), (("drop", "x"), 0)],
            [(("go", "on"), 2), (("drop", "x"), 4)],
            [(("go", "on"), 5), (("take", "x"), 3)],
            [(("go", "on"), 4), (("go", "stay"), 5)],
        ])
        self.assertEqual([chart.walk_to(number) for number in range(6)], [
            [],
            [("go", "on")],
            [("take", "x")],
            [("take", "x"), ("go", "on")],
            [("take", "x"), ("go", "on"), ("drop", "x")],
            [("take", "x"), ("go", "on"), ("drop", "x"), ("go", "on")],
        ])
        self.assertEqual(chart.won(), [4, 5])

    def test_the_map_goes_on_behind_the_wish(self):
        tale = bare(rooms=["a", "b", "c"], ways=[("a", "on", "b", ""), ("b", "on", "c", "")], wish=(("in", "b"),))
        chart = Map(tale)
        self.assertEqual(len(chart.states()), 3)
        self.assertEqual(chart.won(), [1])

    def test_won_nowhere_and_everywhere(self):
        ways = [("a", "on", "b", ""), ("b", "on", "a", "")]
        self.assertEqual(Map(bare(rooms=["a", "b", "c"], ways=ways, wish=(("in", "c"),))).won(), [])
        self.assertEqual(Map(bare(rooms=["a", "b", "c"], ways=ways)).won(), [0, 1])

    def test_a_walk_is_by_the_first_deed_that_came_there(self):
        ways = [("a", "z", "b", ""), ("a", "y", "b", ""), ("a", "x", "c", ""), ("c", "z", "d", ""), ("b", "y", "d", "")]
        chart = Map(bare(rooms=["a", "b", "c", "d"], ways=ways))
        self.assertEqual([state[0] for state in chart.states()], ["a", "b", "c", "d"])
        self.assertEqual(chart.walk_to(1), [("go", "z")])
        self.assertEqual(chart.walk_to(3), [("go", "z"), ("go", "y")])


class Whole(unittest.TestCase):
    """A map against what playing tells."""

    def check(self, tale):
        chart = Map(tale)
        states = chart.states()
        self.assertEqual(states[0], begin(tale))
        self.assertEqual(len(set(states)), len(states))
        came, lengths = [begin(tale)], {begin(tale): 0}
        for number, state in enumerate(states):
            steps = chart.steps(number)
            self.assertEqual([deed for deed, _ in steps], deeds_at(tale, state))
            for deed, behind in steps:
                self.assertEqual(states[behind], done(tale, state, deed))
                if states[behind] not in lengths:
                    came.append(states[behind])
                    lengths[states[behind]] = lengths[state] + 1
        self.assertEqual(came, states)
        for number, state in enumerate(states):
            walk = chart.walk_to(number)
            self.assertEqual(played(tale, walk)[-1], state)
            self.assertEqual(len(walk), lengths[state])
        self.assertEqual(chart.won(), [at for at, state in enumerate(states) if is_won(tale, state)])
        return len(states)

    def test_the_small_tale(self):
        self.assertGreater(self.check(small()), 40)

    def test_more_hands(self):
        for hands in (0, 2, 6):
            self.check(small(hands=hands))

    def test_other_wishes(self):
        for wish in ((), (("at", "ghost", "hand"),), (("in", "garden"), ("not", "lit"))):
            self.check(small(wish=wish))

    def test_the_tale_of_most_states(self):
        self.assertEqual(self.check(wide(False)), 2000)


class Many(unittest.TestCase):
    def test_just_2000_states(self):
        self.assertEqual(len(Map(wide(False)).states()), 2000)

    def test_one_state_more_is_refused(self):
        try:
            Map(wide(True))
            self.fail("made")
        except TaleError as caught:
            self.assertIsInstance(caught, TooMany)
            self.assertNotIsInstance(caught, (BadTale, BadText, NoDeed))

    def test_many_more_are_refused(self):
        flags = ["a", "b", "c", "d", "e", "f", "g", "h", "i", "j", "k", "l"]
        rules = [(flag, (), (("set", flag),)) for flag in flags]
        with self.assertRaises(TooMany):
            Map(bare(flags=flags, rules=rules))
        self.assertEqual(len(Map(bare(flags=flags, rules=rules[:10])).states()), 1024)


class Told(unittest.TestCase):
    def test_lists_that_are_told_may_be_changed(self):
        chart, other = Map(small()), Map(small())
        count = len(chart.states())
        for number in range(count):
            chart.states().reverse()
            chart.states().pop()
            chart.steps(number).clear()
            chart.walk_to(number).append(("go", "up"))
            chart.won().append(-1)
        self.assertEqual(chart.states(), other.states())
        self.assertEqual(chart.won(), other.won())
        for number in range(count):
            self.assertEqual(chart.steps(number), other.steps(number))
            self.assertEqual(chart.walk_to(number), other.walk_to(number))

    def test_kinds_of_values(self):
        chart = Map(small())
        for told in (chart.states(), chart.steps(1), chart.walk_to(1), chart.won()):
            self.assertIs(type(told), list)
            self.assertGreater(len(told), 0)
        for step in chart.steps(1):
            self.assertIs(type(step), tuple)
            self.assertEqual([type(part) for part in step], [tuple, int])
        self.assertEqual(chart.won(), sorted(chart.won()))

    def test_two_maps_have_nothing_in_common(self):
        tale = small()
        Map(tale).states().clear()
        self.assertEqual(Map(tale).states()[0], begin(tale))


if __name__ == "__main__":
    unittest.main()
