"""Walkthroughs: rows of deeds at whose end the wish is met, and in no state ahead of that."""

from placetale.errors import TooMany
from placetale.maps import Map
from placetale.playing import begin, is_won, steps_at

MOST_ROWS = 400
MOST_WALKTHROUGHS = 400


def shortest(tale):
    """The map's walk to its first state in which the wish is met, or None where there is none."""
    chart = Map(tale)
    won = chart.won()
    if not won:
        return None
    return chart.walk_to(won[0])


def walkthroughs(tale, most):
    """All walkthroughs of at most so many deeds, fewer deeds first, else in the order of deeds."""
    if is_won(tale, begin(tale)):
        return [[]]
    found = []
    rows = [(begin(tale), [])]
    marked = None
    for count in range(most):
        rows, won = _one_deed_more(tale, rows)
        found.extend(won)
        _check_counts(rows, found)
        # Rows go on as their states tell: where the same states come again and no walkthrough came
        # since, none will come. Marks ever further apart find this however long it takes.
        mark = ([state for state, _ in rows], len(found))
        if mark == marked:
            break
        if (count & (count + 1)) == 0:
            marked = mark
    return found


def _one_deed_more(tale, rows):
    """The rows with each deed that can be done: those that go on, with their states, and those that are won."""
    going_on = []
    won = []
    for state, walk in rows:
        for deed, after in steps_at(tale, state):
            if is_won(tale, after):
                won.append(walk + [deed])
            else:
                going_on.append((after, walk + [deed]))
    return going_on, won


def _check_counts(rows, found):
    """Refuse more rows of one count that go on, or more walkthroughs in all, than are taken on."""
    if len(rows) > MOST_ROWS:
        raise TooMany(f"more than {MOST_ROWS} rows of so many deeds go on")
    if len(found) > MOST_WALKTHROUGHS:
        raise TooMany(f"there are more than {MOST_WALKTHROUGHS} walkthroughs")
