"""[1] over the whole program: nothing handed in is changed, what is told may be, and it is told again the same."""

import copy
import unittest

from placetale.ends import barred, dead, needful, spoils
from placetale.errors import TaleError
from placetale.likeness import parted
from placetale.maps import Map
from placetale.playing import begin, deeds_at, done, is_won, played
from placetale.tales import Tale
from placetale.texts import read, written
from placetale.walks import shortest, walkthroughs
from tests.told import bare, drawn, parts, small, wide

NEVER = (("is", "lit"), ("not", "lit"))


def asked(tale, other):
    """All that can be asked of a tale, each as a function without arguments."""
    deeds = played(tale, [])
    return {
        "begin": lambda: begin(tale),
        "deeds_at": lambda: deeds_at(tale, begin(tale)),
        "done": lambda: [done(tale, begin(tale), deed) for deed in deeds_at(tale, begin(tale))],
        "is_won": lambda: [is_won(tale, state) for state in deeds],
        "played": lambda: played(tale, deeds_at(tale, begin(tale))[:1]),
        "states": lambda: Map(tale).states(),
        "steps": lambda: [Map(tale).steps(number) for number in range(min(3, len(Map(tale).states())))],
        "walk_to": lambda: Map(tale).walk_to(len(Map(tale).states()) - 1),
        "won": lambda: Map(tale).won(),
        "shortest": lambda: shortest(tale),
        "walkthroughs": lambda: walkthroughs(tale, 4),
        "dead": lambda: dead(tale),
        "spoils": lambda: spoils(tale),
        "barred": lambda: barred(tale),
        "needful": lambda: needful(tale),
        "parted": lambda: parted(tale, other),
        "written": lambda: written(tale),
        "read": lambda: written(read(written(tale))),
    }


def lists_in(told):
    """All lists in what is told, the inner ones first."""
    if not isinstance(told, (list, tuple)):
        return []
    inner = [found for part in told for found in lists_in(part)]
    return inner + ([told] if isinstance(told, list) else [])


def tales():
    return [
        small(), bare(), small(wish=NEVER), small(wish=(("is", "lit"),)), small(wish=(("in", "hall"),)),
        small(rules=parts()["rules"] + [("break", (), (("move", "gold", "nowhere"),))]),
    ] + [drawn(seed) for seed in range(40)]


class Whole(unittest.TestCase):
    def test_asked_again_the_same_is_told_though_what_was_told_was_changed(self):
        changed = set()
        for tale in tales():
            for other in (tale, small(wish=(("is", "open"),))):
                for name, ask in asked(tale, other).items():
                    try:
                        told = ask()
                    except TaleError:
                        self.assertRaises(TaleError, ask)
                        continue
                    before = copy.deepcopy(told)
                    for found in lists_in(told):
                        changed.add(name)
                        found.append("more")
                        found.reverse()
                    self.assertEqual(ask(), before, name)
        self.assertLessEqual({"deeds_at", "played", "states", "steps", "walk_to", "won", "shortest", "walkthroughs",
                              "dead", "spoils", "barred", "needful", "parted"}, changed)

    def test_no_list_is_told_twice_at_once(self):
        for tale in tales():
            for name, ask in asked(tale, tale).items():
                try:
                    found = lists_in(ask())
                except TaleError:
                    continue
                self.assertEqual(len({id(part) for part in found}), len(found), name)

    def test_a_tale_is_not_changed_by_what_is_asked(self):
        for tale in tales():
            text = written(tale)
            for order in (1, -1):
                answers = {}
                for name, ask in list(asked(tale, small()).items())[::order]:
                    try:
                        answers[name] = ask()
                    except TaleError as caught:
                        answers[name] = type(caught)
                if order == 1:
                    first = answers
            self.assertEqual(answers, first)
            self.assertEqual(written(tale), text)

    def test_what_is_handed_in_is_not_changed(self):
        told = parts()
        tale = Tale(**told)
        deeds = shortest(tale)
        walk = list(deeds)
        for ask in asked(tale, tale).values():
            try:
                ask()
            except TaleError:
                pass
        played(tale, deeds)
        self.assertEqual(deeds, walk)
        self.assertEqual(told, parts())

    def test_what_is_kept_is_a_copy(self):
        told = parts(wish=(("is", "lit"),))
        tale = Tale(**told)
        for part in ("rooms", "ways", "things", "flags", "rules"):
            told[part].clear()
        for name, ask in asked(tale, tale).items():
            other = small(wish=(("is", "lit"),))
            self.assertEqual(ask(), asked(other, other)[name](), name)

    def test_a_refusal_is_told_again(self):
        tale = wide(True)
        for ask in (Map, shortest, dead, spoils, barred, needful):
            for _ in range(2):
                with self.assertRaises(TaleError):
                    ask(tale)
        self.assertEqual(written(tale), written(wide(True)))


if __name__ == "__main__":
    unittest.main()
