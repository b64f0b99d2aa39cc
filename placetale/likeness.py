"""Likeness: whether the deeds that can be done, and the wish, tell two tales apart."""

from placetale.errors import TooMany
from placetale.maps import walk_back
from placetale.playing import begin, is_won, steps_at

MOST_PAIRS = 4000


def parted(one, other):
    """("alike", pairs) where nothing tells the tales apart, else ("apart", the fewest deeds that do)."""
    first = (begin(one), begin(other))
    came = {first: None}
    pairs = [first]
    steps = [_steps_together(one, other, first)]
    if steps[0] is None:
        return ("apart", [])
    looked_at = 0
    while looked_at < len(pairs):
        around = steps[looked_at]
        for deed, behind in around:
            if behind in came:
                continue
            came[behind] = (pairs[looked_at], deed)
            # A pair is compared as soon as it is come to, so that no pair of more deeds is counted yet.
            together = _steps_together(one, other, behind)
            if together is None:
                return ("apart", walk_back(came, behind))
            if len(pairs) == MOST_PAIRS:
                raise TooMany(f"the tales have more than {MOST_PAIRS} pairs of states")
            pairs.append(behind)
            steps.append(together)
        looked_at += 1
    return ("alike", pairs)


def _steps_together(one, other, pair):
    """The deeds of both states with the pairs behind them, or None where the two are told apart."""
    state, twin = pair
    if is_won(one, state) != is_won(other, twin):
        return None
    steps = steps_at(one, state)
    twins = {deed: after for deed, after in steps_at(other, twin)}
    if len(steps) != len(twins) or not all([deed in twins for deed, _ in steps]):
        return None
    return [(deed, (after, twins[deed])) for deed, after in steps]
