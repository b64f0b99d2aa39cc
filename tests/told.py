"""Tales that several tests tell."""

from placetale.tales import Tale


def parts(**other):
    """The arguments of a small tale, with some of them told otherwise."""
    told = {
        "hands": 1,
        "rooms": ["hall", "cellar", "garden"],
        "ways": [
            ("hall", "down", "cellar", ""),
            ("cellar", "up", "hall", ""),
            ("hall", "out", "garden", "open"),
            ("garden", "up", "hall", ""),
        ],
        "things": [("lamp", "hall"), ("gold", "cellar"), ("ghost", "nowhere")],
        "flags": ["lit", "open"],
        "rules": [
            ("rub", (("at", "lamp", "hand"), ("not", "lit")), (("set", "lit"),)),
            ("pull", (("in", "cellar"), ("is", "lit")), (("set", "open"),)),
            ("rub", (("is", "lit"),), (("clear", "lit"), ("move", "ghost", "hand"))),
        ],
        "wish": (("at", "gold", "garden"), ("is", "lit")),
    }
    told.update(other)
    return told


def small(**other):
    return Tale(**parts(**other))


def bare(**other):
    """A tale of one room and nothing else but what is told."""
    told = {"hands": 0, "rooms": ["hall"], "ways": [], "things": [], "flags": [], "rules": [], "wish": ()}
    told.update(other)
    return Tale(**told)


FULL_FLAGS = ["a", "b", "c", "d", "e", "f", "g", "h", "i", "j", "k", "l"]
FULL_ROOMS = ["ra", "rb", "rc", "rd", "re", "rf", "rg", "rh"]
FULL_THINGS = ["ta", "tb", "tc", "td", "te", "tf"]


def full_parts(**other):
    """The arguments of a tale in which there is as much of all as may be."""
    needs = (("in", "ra"), ("at", "ta", "hand"), ("is", "a"), ("not", "b"), ("at", "tb", "nowhere"), ("at", "tf", "rh"))
    effects = (("go", "rh"), ("move", "ta", "nowhere"), ("move", "tb", "hand"), ("set", "l"), ("clear", "a"),
               ("move", "tc", "rb"))
    told = {
        "hands": 6,
        "rooms": list(FULL_ROOMS),
        "ways": [(room, word, "ra", "l") for room in FULL_ROOMS for word in ("x", "y", "abcdefgh")],
        "things": [(name, "hand") for name in FULL_THINGS],
        "flags": list(FULL_FLAGS),
        "rules": [("say", needs, effects)] * 24,
        "wish": needs,
    }
    told.update(other)
    return told


def wide(trap):
    """A tale of just 2000 states: 5 places for each of 3 things, 4 flags; with the trap one state more."""
    flags = ["a", "b", "c", "d"]
    things = ["x", "y", "z"]
    at_home = (("in", "home"),)
    rules = []
    for thing in things:
        for number, place in enumerate(["home", "far", "away", "hand", "nowhere"]):
            rules.append((thing + "abcde"[number], at_home, (("move", thing, place),)))
    for flag in flags:
        rules.append(("set" + flag, at_home, (("set", flag),)))
        rules.append(("clear" + flag, at_home, (("clear", flag),)))
    if trap:
        vanish = tuple(("move", thing, "nowhere") for thing in things)
        rules.append(("trap", at_home + tuple(("is", flag) for flag in flags), (("go", "far"),) + vanish))
    return bare(rooms=["home", "far", "away"], things=[(thing, "home") for thing in things], flags=flags, rules=rules)
