"""Ends: states and deeds behind which the wish is lost, and deeds that no walkthrough does without."""

from placetale.maps import Map
from placetale.playing import all_deeds


def dead(tale):
    """The states from which deeds can't come to the wish, by their numbers."""
    chart = Map(tale)
    return [state for state, is_live in zip(chart.states(), _live(chart)) if not is_live]


def spoils(tale):
    """The deeds that lead from a live state to a dead one, each behind the map's walk to its state."""
    chart = Map(tale)
    live = _live(chart)
    told = []
    for number, is_live in enumerate(live):
        if is_live:
            lost = [deed for deed, behind in chart.steps(number) if not live[behind]]
            # Each walk is a list of its own, so that changing one changes no other.
            told.extend([(chart.walk_to(number), deed) for deed in lost])
    return told


def barred(tale):
    """Each state of the map with its steps, where the wish can't be come to, else None."""
    chart = Map(tale)
    if chart.won():
        return None
    return [(state, chart.steps(number)) for number, state in enumerate(chart.states())]


def needful(tale):
    """The deeds that stand in each walkthrough, in order, or None where there is no walkthrough."""
    chart = Map(tale)
    won = chart.won()
    if not won:
        return None
    walk = chart.walk_to(won[0])
    return [deed for deed in all_deeds(tale) if deed in walk and not _is_won_without(chart, deed)]


def _live(chart):
    """For each state, by its number, whether deeds can come from it to the wish."""
    ahead = _numbers_ahead(chart)
    live = [False] * len(ahead)
    todo = chart.won()
    while todo:
        number = todo.pop()
        if not live[number]:
            live[number] = True
            todo.extend(ahead[number])
    return live


def _numbers_ahead(chart):
    """For each state, by its number, the numbers of the states from which a deed leads to it."""
    count = len(chart.states())
    ahead = [[] for _ in range(count)]
    for number in range(count):
        for _, behind in chart.steps(number):
            ahead[behind].append(number)
    return ahead


def _is_won_without(chart, left_out):
    """Whether deeds can come from the beginning to the wish where one deed is never done."""
    won = {number: True for number in chart.won()}
    todo = [0]
    seen = {0: True}
    while todo:
        number = todo.pop()
        if number in won:
            return True
        for deed, behind in chart.steps(number):
            if deed != left_out and behind not in seen:
                seen[behind] = True
                todo.append(behind)
    return False
