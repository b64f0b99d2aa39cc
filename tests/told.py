"""Tales that several tests tell."""

import random

from placetale.tales import Tale


def parts(**other):
    """The arguments of a small tale, with some of them told otherwise."""
    told = {
        "hands": 1,
        "rooms": ["hall", "cellar", "garden"],
        "ways": [
            ("hall", "down", "cellar", ""),
            ("cellar", "up", "hall", ""),
            ("hall", "out", "garden", "open"),
            ("garden", "up", "hall", ""),
        ],
        "things": [("lamp", "hall"), ("gold", "cellar"), ("ghost", "nowhere")],
        "flags": ["lit", "open"],
        "rules": [
            ("rub", (("at", "lamp", "hand"), ("not", "lit")), (("set", "lit"),)),
            ("pull", (("in", "cellar"), ("is", "lit")), (("set", "open"),)),
            ("rub", (("is", "lit"),), (("clear", "lit"), ("move", "ghost", "hand"))),
        ],
        "wish": (("at", "gold", "garden"), ("is", "lit")),
    }
    told.update(other)
    return told


def small(**other):
    return Tale(**parts(**other))


def bare(**other):
    """A tale of one room and nothing else but what is told."""
    told = {"hands": 0, "rooms": ["hall"], "ways": [], "things": [], "flags": [], "rules": [], "wish": ()}
    told.update(other)
    return Tale(**told)


FULL_FLAGS = ["a", "b", "c", "d", "e", "f", "g", "h", "i", "j", "k", "l"]
FULL_ROOMS = ["ra", "rb", "rc", "rd", "re", "rf", "rg", "rh"]
FULL_THINGS = ["ta", "tb", "tc", "td", "te", "tf"]


def full_parts(**other):
    """The arguments of a tale in which there is as much of all as may be."""
    needs = (("in", "ra"), ("at", "ta", "hand"), ("is", "a"), ("not", "b"), ("at", "tb", "nowhere"), ("at", "tf", "rh"))
    effects = (("go", "rh"), ("move", "ta", "nowhere"), ("move", "tb", "hand"), ("set", "l"), ("clear", "a"),
               ("move", "tc", "rb"))
    told = {
        "hands": 6,
        "rooms": list(FULL_ROOMS),
        "ways": [(room, word, "ra", "l") for room in FULL_ROOMS for word in ("x", "y", "abcdefgh")],
        "things": [(name, "hand") for name in FULL_THINGS],
        "flags": list(FULL_FLAGS),
        "rules": [("say", needs, effects)] * 24,
        "wish": needs,
    }
    told.update(other)
    return told


def wide(trap, flags="abcd", **other):
    """A tale of 5 places for each of 3 things, and of its flags: just 2000 states, or with five flags 4000.

    With the trap there is one state more.
    """
    things = ["x", "y", "z"]
    at_home = (("in", "home"),)
    rules = []
    for thing in things:
        for number, place in enumerate(["home", "far", "away", "hand", "nowhere"]):
            rules.append((thing + "abcde"[number], at_home, (("move", thing, place),)))
    for flag in flags:
        rules.append(("set" + flag, at_home, (("set", flag),)))
    rules.append(("unset", at_home, tuple(("clear", flag) for flag in flags)))
    if trap:
        vanish = tuple(("move", thing, "nowhere") for thing in things)
        rules.append(("trap", at_home + tuple(("is", flag) for flag in flags), (("go", "far"),) + vanish))
    things = [(thing, "home") for thing in things]
    return bare(**{"rooms": ["home", "far", "away"], "things": things, "flags": list(flags), "rules": rules, **other})


def great_parts(**other):
    """The arguments of a tale of the greatest counts that can be won, by twelve steps and a walk, and be lost.

    With each step one flag more is set. To lose lays a thing where it can be taken, and it must stay nowhere.
    """
    ring = FULL_ROOMS + FULL_ROOMS[:1]
    ways = [(room, "on", after, "a") for room, after in zip(ring, ring[1:])]
    ways += [(after, "back", room, "") for room, after in zip(ring, ring[1:])]
    ways += [(room, "home", "ra", "l") for room in FULL_ROOMS]
    rules = []
    for at, flag in enumerate(FULL_FLAGS):
        so_far = (("is", FULL_FLAGS[at - 1]),) if at else (("not", "l"),)
        needs = so_far + (("not", flag),) + tuple(("at", name, "nowhere") for name in FULL_THINGS[:4])
        rules.append(("step", needs, (("set", flag),) + tuple(("move", name, "nowhere") for name in FULL_THINGS[:5])))
        needs = (("is", flag),) * 5 + (("at", "tf", "nowhere"),)
        rules.append(("lose" + flag, needs, (("go", "rh"), ("clear", "a")) + (("move", "tf", "rh"), ("set", "a")) * 2))
    told = {
        "hands": 6,
        "rooms": list(FULL_ROOMS),
        "ways": ways,
        "things": [(name, "nowhere") for name in FULL_THINGS],
        "flags": list(FULL_FLAGS),
        "rules": rules,
        "wish": (("in", "rh"), ("is", "l"), ("is", "k"), ("at", "tf", "nowhere"), ("at", "ta", "nowhere"), ("is", "a")),
    }
    told.update(other)
    return told


def great(**other):
    return Tale(**great_parts(**other))


def drawn_parts(seed):
    """The arguments of a tale that is drawn by lot, another one for each seed, the same one each time."""
    lot = random.Random(seed)
    rooms, flags = ["a", "b", "c"][:lot.randint(1, 3)], ["a", "f", "if"][:lot.randint(0, 3)]
    names = ["a", "hand"][:lot.randint(0, 2)]
    places = rooms + ["hand", "nowhere"]
    needs = [("in", room) for room in rooms] + [(word, flag) for word in ("is", "not") for flag in flags]
    needs += [("at", name, place) for name in names for place in places]
    effects = [("go", room) for room in rooms] + [(word, flag) for word in ("set", "clear") for flag in flags]
    effects += [("move", name, place) for name in names for place in places]
    starts = [(room, word) for room in rooms for word in ("on", "if", "a")]
    ways = [start + (lot.choice(rooms), lot.choice(["", ""] + flags)) for start in starts if lot.random() < 0.6]
    lot.shuffle(ways)
    return {
        "hands": 2,
        "rooms": rooms,
        "ways": ways,
        "things": [(name, lot.choice(places)) for name in names],
        "flags": flags,
        "rules": [(lot.choice(["say", "a", "if"]), tuple(lot.choices(needs, k=lot.randint(0, 3))),
                   tuple(lot.choices(effects, k=lot.randint(1, 2)))) for _ in range(lot.randint(0, 7))],
        "wish": tuple(lot.choices(needs, k=lot.choice([0, 1, 2, 2, 3, 3]))),
    }


def drawn(seed, **other):
    return Tale(**{**drawn_parts(seed), **other})
