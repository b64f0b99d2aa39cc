"""Tales: what they are told by, and the refusal of all that is none."""

from placetale.errors import BadTale

MOST_SIGNS = 8
MOST_HANDS = 6
MOST_ROOMS = 8
MOST_WAYS = 24
MOST_THINGS = 6
MOST_FLAGS = 12
MOST_RULES = 24
MOST_NEEDS = 6
MOST_EFFECTS = 6

# Each form is the word of a need or an effect, then the sorts of what it names.
NEED_FORMS = (("in", "room"), ("at", "thing", "place"), ("is", "flag"), ("not", "flag"))
EFFECT_FORMS = (("go", "room"), ("move", "thing", "place"), ("set", "flag"), ("clear", "flag"))


class Tale:
    """A tale. What it keeps are tuples, so that it stays as it was told."""

    def __init__(self, hands, rooms, ways, things, flags, rules, wish):
        self.hands = hands
        self.rooms = tuple(rooms)
        self.ways = tuple(ways)
        self.things = tuple(things)
        self.flags = tuple(flags)
        self.rules = tuple(rules)
        self.wish = tuple(wish)
        _check_tale(self)
        self.go_words = _each_once([word for _, word, _, _ in self.ways])
        self.do_words = _each_once([word for word, _, _ in self.rules])
        self._way_table = {(room, word): (other, flag) for room, word, other, flag in self.ways}
        self._rule_table = _rules_by_word(self.rules, self.do_words)
        self._thing_table = {thing[0]: at for at, thing in enumerate(self.things)}

    def way_from(self, room, word):
        """The other room and the flag of a way, as a tuple, or None where there is no such way."""
        return self._way_table.get((room, word))

    def rules_of(self, word):
        """The rules of a word in order, each as a tuple of its needs and its effects."""
        return self._rule_table.get(word, ())

    def thing_number(self, name):
        """The number of a thing in the order of things, from 0, or None where it isn't there."""
        return self._thing_table.get(name)


def _each_once(words):
    """The words in the order in which they come first."""
    return tuple({word: True for word in words})


def _rules_by_word(rules, words):
    """For each word its rules in order, without the word."""
    return {name: tuple([rule[1:] for rule in rules if rule[0] == name]) for name in words}


def _check_tale(tale):
    """Refuse what is no tale."""
    things = tuple([name for name, _ in tale.things])
    known = {
        "room": tale.rooms,
        "place": tale.rooms + ("hand", "nowhere"),
        "thing": things,
        "flag": tale.flags,
    }
    _require(0 <= tale.hands <= MOST_HANDS, "hands")
    _require(_are_rooms(tale.rooms), "rooms")
    _require(_are_names(tale.flags, 0, MOST_FLAGS), "flags")
    _require(_are_names(things, 0, MOST_THINGS), "things")
    _require(_lie_well(tale.things, tale.hands, known), "places of things")
    _require(_are_ways(tale.ways, known), "ways")
    _require(_are_rules(tale.rules, known), "rules")
    _require(_are_needs(tale.wish, known), "wish")


def _require(fits, what):
    """Refuse the tale unless a part of it fits."""
    if not fits:
        raise BadTale(f"no tale has such {what}")


def _is_name(text):
    """Whether a text is a name."""
    if not 1 <= len(text) <= MOST_SIGNS or text == "then":
        return False
    return all(["a" <= sign <= "z" for sign in text])


def _are_names(texts, least, most):
    """Whether texts are names, none twice, and as many as they may be."""
    if not least <= len(texts) <= most or len(set(texts)) != len(texts):
        return False
    return all([_is_name(text) for text in texts])


def _are_rooms(rooms):
    """Whether a tale may have these rooms."""
    return _are_names(rooms, 1, MOST_ROOMS) and "hand" not in rooms and "nowhere" not in rooms


def _lie_well(things, hands, known):
    """Whether each thing is at a place at first, and no more in the hand than may be."""
    places = [place for _, place in things]
    return places.count("hand") <= hands and all([place in known["place"] for place in places])


def _are_ways(ways, known):
    """Whether a tale may have these ways."""
    starts = [(room, word) for room, word, _, _ in ways]
    if len(ways) > MOST_WAYS or len(set(starts)) != len(starts):
        return False
    return all([_is_way(way, known) for way in ways])


def _is_way(way, known):
    """Whether a way has a name as its word and leads between rooms that are there."""
    room, word, other, flag = way
    if not _is_name(word) or (flag != "" and flag not in known["flag"]):
        return False
    return room in known["room"] and other in known["room"]


def _are_rules(rules, known):
    """Whether a tale may have these rules."""
    return len(rules) <= MOST_RULES and all([_is_rule(rule, known) for rule in rules])


def _is_rule(rule, known):
    """Whether a rule has a name as its word, and needs and effects as they may be."""
    word, needs, effects = rule
    return _is_name(word) and _are_needs(needs, known) and _are_effects(effects, known)


def _are_needs(needs, known):
    """Whether there are none to six needs that name what is there."""
    return len(needs) <= MOST_NEEDS and all([_has_form(need, NEED_FORMS, known) for need in needs])


def _are_effects(effects, known):
    """Whether there are one to six effects that name what is there."""
    if not 1 <= len(effects) <= MOST_EFFECTS:
        return False
    return all([_has_form(effect, EFFECT_FORMS, known) for effect in effects])


def _has_form(told, forms, known):
    """Whether a need or an effect has one of the forms and names what is there."""
    for form in forms:
        if told[:1] == form[:1] and len(told) == len(form):
            return all([name in known[sort] for name, sort in zip(told[1:], form[1:])])
    return False
