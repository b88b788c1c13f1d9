"""Runs of programs."""

from flowform.assembling import assembled
from flowform.coding import answered, run_code, started
from flowform.errors import RunOver
from flowform.graphs import event_at
from flowform.names import resolve
from flowform.words import is_outcome


def run(program, answers):
    """Return the tuple of the events of a run of the program."""
    return run_code(assembled(resolve(program)), answers)


class Run:
    """A run of a program that is answered step by step."""

    def __init__(self, program):
        self._code = assembled(resolve(program))
        self._configuration = started(self._code)
        self._events = [event_at(self._configuration)]
        self._answers = []

    def answer(self, value):
        """Give the answer to the call that the run is waiting for, and return the next event."""
        if self.is_over:
            raise RunOver("the run has ended")
        self._configuration = answered(self._code, self._configuration, value)
        self._events.append(event_at(self._configuration))
        self._answers.append(value)
        return self.event

    @property
    def event(self):
        """The current event."""
        return self._events[-1]

    @property
    def is_over(self):
        """True if the current event is an outcome, otherwise False."""
        return is_outcome(self._events[-1])

    @property
    def answers(self):
        """The tuple of the answers that have been given."""
        return tuple(self._answers)

    def __len__(self):
        return len(self._events)

    def __iter__(self):
        return iter(self._events)
