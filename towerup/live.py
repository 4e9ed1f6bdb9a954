"""Live houses: led by steps, with the history and the lot at hand."""

from towerup.basics import is_below
from towerup.errors import BadStep, NoCall, NoSide, NoStep
from towerup.lots import tellable_in
from towerup.masks import EMPTY, Lots
from towerup.steps import AT_REST, as_step, event_of, initial, state_behind


class Live:
    """A house that is led by steps, also behind a broken lot."""

    def __init__(self, house):
        self.state = initial(house)
        self.broken = None
        self._house = house
        self._table = Lots(house.kind, house.contract.sides)
        self._steps = []
        self._events = []
        # At the begin and behind each step: the state, the number of the lot, and what is broken.
        self._stands = [(self.state, 0, None)]

    def __len__(self):
        return len(self._steps)

    def __iadd__(self, other):
        if not isinstance(other, (list, tuple)):
            raise BadStep(-1)
        ahead = self.rehearsal()
        for step in other:
            ahead.step(step)
        self._become(ahead)
        return self

    def __enter__(self):
        return self

    def __exit__(self, kind, value, trace):
        pass

    def step(self, step):
        """Take a step; the event that it shows, or None."""
        behind = state_behind(self._house, self.state, step)
        if behind is None:
            raise BadStep(len(self._steps))
        taken = as_step(step)
        event = event_of(taken)
        self._stands.append((behind,) + self._lot_behind(event))
        self._steps.append(taken)
        if event is not None:
            self._events.append(event)
        self._stand()
        return event

    def back(self):
        """Take the last step back, and tell it."""
        if not self._steps:
            raise NoStep()
        self._stands.pop()
        taken = self._steps.pop()
        if event_of(taken) is not None:
            self._events.pop()
        self._stand()
        return taken

    def lot(self):
        """The lot of the history."""
        number = self._stands[-1][1]
        return () if number == EMPTY else self._table.told(number)

    def events(self):
        """The history."""
        return list(self._events)

    def asked(self, side):
        """The results that the side may be told next by the lot."""
        if not is_below(side, self._house.contract.sides):
            raise NoSide(side)
        if self.state[0][side][1] == AT_REST:
            raise NoCall(side)
        return tellable_in(self.lot(), side)

    def rehearsal(self):
        """A new live house of the same house, behind the same steps."""
        other = Live(self._house)
        other._become(self)
        return other

    def _lot_behind(self, event):
        """The number of the lot behind an event, and what is broken then."""
        _, number, broken = self._stands[-1]
        if event is None or number == EMPTY:
            return (number, broken)
        behind = self._table.behind(number, event)
        return (behind, len(self._events) if behind == EMPTY else None)

    def _become(self, other):
        """Stand as another live house of the same house stands."""
        # The table of lots only grows, so both may have it.
        self._table = other._table
        self._steps = list(other._steps)
        self._events = list(other._events)
        self._stands = list(other._stands)
        self._stand()

    def _stand(self):
        self.state, _, self.broken = self._stands[-1]
