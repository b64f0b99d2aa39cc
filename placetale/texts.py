"""Texts: a tale written as rows, and read from them."""

from placetale.errors import BadText
from placetale.tales import Tale


def written(tale):
    """The rows of a tale, with one line feed between."""
    rows = [f"hands {tale.hands}"]
    rows.extend([f"room {name}" for name in tale.rooms])
    rows.extend([_way_row(way) for way in tale.ways])
    rows.extend([f"thing {name} {place}" for name, place in tale.things])
    rows.extend([f"flag {name}" for name in tale.flags])
    rows.extend([_rule_row(rule) for rule in tale.rules])
    if tale.wish:
        rows.append(f"wish {_in_a_row(tale.wish)}")
    return "\n".join(rows)


def read(text):
    """The tale that a text tells."""
    told = [[] for _ in SORTS]
    latest = 0
    for number, row in enumerate(text.split("\n")):
        word, _, rest = row.partition(" ")
        _require(word in SORTS, number)
        sort = SORTS.index(word)
        # The first row tells the hands, and no other row does.
        _require(sort >= latest and (sort == HANDS) == (number == 0), number)
        _require(sort != WISH or not told[WISH], number)
        read_rest = READERS[word]
        told[sort].append(read_rest(rest, number))
        latest = sort
    hands, rooms, ways, things, flags, rules, wishes = told
    return Tale(hands[0], rooms, ways, things, flags, rules, wishes[0] if wishes else ())


def _way_row(way):
    room, word, other, flag = way
    if flag == "":
        return f"way {room} {word} {other}"
    return f"way {room} {word} {other} if {flag}"


def _rule_row(rule):
    word, needs, effects = rule
    if not needs:
        return f"rule {word}: {_in_a_row(effects)}"
    return f"rule {word}: if {_in_a_row(needs)} then {_in_a_row(effects)}"


def _in_a_row(told):
    """Needs or effects, as they are written."""
    return ", ".join([" ".join(words) for words in told])


def _require(fits, number):
    """Refuse the text for the row of that number unless it is as it must be."""
    if not fits:
        raise BadText(number)


def _words(text, number):
    """The words of a part of a row, as a tuple."""
    words = text.split(" ")
    _require("" not in words, number)
    return tuple(words)


def _groups(text, number):
    """The needs or effects of a part of a row, each as a tuple of its words."""
    return tuple([_words(group, number) for group in text.split(", ")])


def _read_hands(rest, number):
    _require(len(rest) == 1 and "0" <= rest <= "9", number)
    return int(rest)


def _read_name(rest, number):
    words = _words(rest, number)
    _require(len(words) == 1, number)
    return words[0]


def _read_way(rest, number):
    words = _words(rest, number)
    _require(len(words) == 3 or (len(words) == 5 and words[3] == "if"), number)
    return words[:3] + (words[4] if len(words) == 5 else "",)


def _read_thing(rest, number):
    words = _words(rest, number)
    _require(len(words) == 2, number)
    return words


def _read_rule(rest, number):
    word, colon, told = rest.partition(": ")
    _require(colon != "", number)
    name = _read_name(word, number)
    needs = ()
    # No effect begins with this word, so that it always tells that needs stand here.
    if told == "if" or told.startswith("if "):
        told_needs, then, told = told[3:].partition(" then ")
        _require(then != "", number)
        needs = _groups(told_needs, number)
    return (name, needs, _groups(told, number))


# The sorts of rows in their order, and how what stands behind the first word of each is read.
SORTS = ("hands", "room", "way", "thing", "flag", "rule", "wish")
HANDS = 0
WISH = 6
READERS = {
    "hands": _read_hands,
    "room": _read_name,
    "way": _read_way,
    "thing": _read_thing,
    "flag": _read_name,
    "rule": _read_rule,
    "wish": _groups,
}
