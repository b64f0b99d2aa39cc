"""Maps: all states that deeds can come to."""

from placetale.errors import TooMany
from placetale.playing import begin, is_won, steps_at

MOST_STATES = 2000


class Map:
    """All states of a tale, numbered as deeds in order come to them first."""

    def __init__(self, tale):
        first = begin(tale)
        self._states = [first]
        self._numbers = {first: 0}
        # For each number, the number and the deed by which it was come to; the beginning has none.
        self._came = [None]
        self._steps = []
        while len(self._steps) < len(self._states):
            self._look_around(tale)
        self._won = [at for at, state in enumerate(self._states) if is_won(tale, state)]

    def states(self):
        """The states, in their numbers."""
        return list(self._states)

    def steps(self, number):
        """The deeds of a state in order, each with the number of the state behind it."""
        return list(self._steps[number])

    def walk_to(self, number):
        """The deeds by which the state was numbered: a shortest walk."""
        return walk_back(self._came, number)

    def won(self):
        """The numbers of the states in which the wish is met, rising."""
        return list(self._won)

    def _look_around(self, tale):
        """Find the steps of the first state that has none yet, and number what they come to."""
        number = len(self._steps)
        around = steps_at(tale, self._states[number])
        steps = []
        for deed, after in around:
            if after not in self._numbers:
                self._add(after, (number, deed))
            steps.append((deed, self._numbers[after]))
        self._steps.append(steps)

    def _add(self, state, came):
        """Give a new state its number."""
        if len(self._states) == MOST_STATES:
            raise TooMany(f"the tale has more than {MOST_STATES} states")
        self._numbers[state] = len(self._states)
        self._states.append(state)
        self._came.append(came)


def walk_back(came, at):
    """The deeds by which something was come to, where came tells for each what was ahead of it, and the deed."""
    walk = []
    while came[at] is not None:
        at, deed = came[at]
        walk.append(deed)
    walk.reverse()
    return walk
