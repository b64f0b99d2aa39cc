"""Playing: states, the deeds that can be done in them, and the states behind these."""

from placetale.errors import NoDeed


def begin(tale):
    """The state in which the tale begins."""
    return (tale.rooms[0], tuple([place for _, place in tale.things]), ())


def deeds_at(tale, state):
    """The deeds that can be done in a state, in order."""
    return [deed for deed, _ in steps_at(tale, state)]


def done(tale, state, deed):
    """The state behind a deed."""
    after = _behind(tale, state, deed)
    if after is None:
        raise NoDeed(f"{deed} can't be done in {state}")
    return after


def is_won(tale, state):
    """Whether the wish is met in a state."""
    return _all_met(tale, state, tale.wish)


def played(tale, deeds):
    """The states from the beginning on, one behind each deed."""
    states = [begin(tale)]
    for deed in deeds:
        states.append(done(tale, states[-1], deed))
    return states


def steps_at(tale, state):
    """The deeds that can be done in a state, in order, each with the state behind it."""
    steps = []
    for deed in all_deeds(tale):
        after = _behind(tale, state, deed)
        if after is not None:
            steps.append((deed, after))
    return steps


def all_deeds(tale):
    """All deeds that can be done anywhere in the tale, in order."""
    goes = [("go", word) for word in tale.go_words]
    takes = [("take", name) for name, _ in tale.things]
    drops = [("drop", name) for name, _ in tale.things]
    return goes + takes + drops + [("do", word) for word in tale.do_words]


def _behind(tale, state, deed):
    """The state behind a deed, or None where it can't be done."""
    kind, name = deed
    if kind == "go":
        return _behind_go(tale, state, name)
    if kind == "take":
        return _behind_take(tale, state, name)
    if kind == "drop":
        return _behind_drop(tale, state, name)
    if kind == "do":
        return _behind_do(tale, state, name)
    return None


def _behind_go(tale, state, word):
    room, places, flags = state
    way = tale.way_from(room, word)
    if way is None:
        return None
    other, flag = way
    if flag != "" and flag not in flags:
        return None
    return (other, places, flags)


def _behind_take(tale, state, name):
    room, places, flags = state
    number = tale.thing_number(name)
    if number is None or places[number] != room or places.count("hand") >= tale.hands:
        return None
    return (room, _moved(places, number, "hand"), flags)


def _behind_drop(tale, state, name):
    room, places, flags = state
    number = tale.thing_number(name)
    if number is None or places[number] != "hand":
        return None
    return (room, _moved(places, number, room), flags)


def _behind_do(tale, state, word):
    for needs, effects in tale.rules_of(word):
        if _all_met(tale, state, needs):
            return _all_come(tale, state, effects)
    return None


def _all_met(tale, state, needs):
    """Whether each of the needs is met in a state."""
    return all([_is_met(tale, state, need) for need in needs])


def _is_met(tale, state, need):
    room, places, flags = state
    if need[0] == "in":
        return room == need[1]
    if need[0] == "at":
        return places[tale.thing_number(need[1])] == need[2]
    return (need[1] in flags) == (need[0] == "is")


def _all_come(tale, state, effects):
    """The state behind the effects, which come in turn."""
    after = state
    for effect in effects:
        after = _come(tale, after, effect)
    return after


def _come(tale, state, effect):
    """The state behind one effect."""
    room, places, flags = state
    if effect[0] == "go":
        return (effect[1], places, flags)
    if effect[0] == "move":
        return (room, _moved(places, tale.thing_number(effect[1]), effect[2]), flags)
    return (room, places, _switched(tale, flags, effect[1], effect[0] == "set"))


def _moved(places, number, place):
    """The places, with a new one for the thing of that number."""
    return places[:number] + (place,) + places[number + 1:]


def _switched(tale, flags, flag, is_set):
    """The set flags in the tale's order, with one of them set or cleared."""
    return tuple([name for name in tale.flags if (is_set if name == flag else name in flags)])
