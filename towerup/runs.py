"""Runs: rows of steps that a house takes."""

from towerup.basics import is_integer, is_row
from towerup.errors import BadNumbers, BadStep, NoStep
from towerup.steps import as_step, choices_at, event_of, initial

MOST_STEPS = 500


class Record:
    """A run: its steps, the states that come, and the history."""

    def __init__(self, steps, states, history):
        self.steps = list(steps)
        self.states = list(states)
        self.history = list(history)


class Running:
    """A run that grows, and that can be taken back."""

    def __init__(self, house):
        self.state = initial(house)
        self._house = house
        self._steps = []
        self._states = [self.state]

    def __len__(self):
        return len(self._steps)

    def choices(self):
        """All steps that are possible now, wrong ones too, ascending."""
        return [step for step, _ in choices_at(self._house, self.state)]

    def can(self, step):
        """Whether the value is a row of a step that is possible now."""
        return as_step(step) in self.choices()

    def step(self, step):
        """Take a step; the event that it shows, or None."""
        taken = as_step(step)
        for choice, state in choices_at(self._house, self.state):
            if choice == taken:
                self._steps.append(taken)
                self._states.append(state)
                self.state = state
                return event_of(taken)
        raise BadStep(len(self._steps))

    def back(self):
        """Take the last step back, and tell it."""
        if not self._steps:
            raise NoStep()
        self._states.pop()
        self.state = self._states[-1]
        return self._steps.pop()

    def record(self):
        """The Record of the run."""
        events = [event_of(step) for step in self._steps]
        return Record(self._steps, [state for state in self._states if state is not None],
                      [event for event in events if event is not None])

    def wander(self, numbers):
        """Take a step for each number, and tell it, as long as a step is possible."""
        if not isinstance(numbers, (list, tuple)) or not all([is_integer(number) for number in numbers]):
            raise BadNumbers()
        for number in list(numbers):
            choices = self.choices()
            if not choices:
                return
            step = choices[number % len(choices)]
            self.step(step)
            yield step


def run(house, steps):
    """The Record of these steps."""
    if not is_row(steps, 0, MOST_STEPS):
        raise BadStep(-1)
    running = Running(house)
    for step in steps:
        running.step(step)
    return running.record()
