"""Changes of programs that keep their behaviour."""

from flowform.comparing import compare
from flowform.errors import FlowError, TooManyVersions
from flowform.flows import flow_graph
from flowform.paths import replaced, walk
from flowform.reader import read_program

MOST_VERSIONS = 20


def redundant(program):
    """Return the tuple of the paths of all redundant statements."""
    flow = flow_graph(program)
    return tuple([path for path, _ in walk(program) if _has_flow(replaced(program, path, ()), flow)])


def reduced(program):
    """Return the program without its redundant statements, and the tuple of the paths of those removed."""
    flow = flow_graph(program)
    removed = []
    path = _first_redundant(program, flow)
    while path is not None:
        removed.append(path)
        program = replaced(program, path, ())
        path = _first_redundant(program, flow)
    return (program, tuple(removed))


def _first_redundant(program, flow):
    """Return the path of the first redundant statement of a program with this flow graph, or None."""
    for path, _ in walk(program):
        if _has_flow(replaced(program, path, ()), flow):
            return path
    return None


def _has_flow(program, flow):
    """Return True if the program has a flow graph, which is this one."""
    try:
        return flow_graph(program) == flow
    except FlowError:
        return False


class Session:
    """Versions of a program with the same flow graph."""

    def __init__(self, program):
        self._flow = flow_graph(program)
        self._versions = [program]
        self._steps = []
        self._undone = []

    def replace_at(self, path, statements):
        """Replace the statement at the path in the current version, if this does not change the behaviour.

        Return None, or otherwise the first difference between the current version and the changed one.
        """
        changed = replaced(self.program, path, statements)
        difference = compare(self.flow, flow_graph(changed))
        if difference is not None:
            return difference
        if len(self._versions) == MOST_VERSIONS:
            raise TooManyVersions("the session has as many versions as it may have")
        self._versions.append(changed)
        self._steps.append((path, statements))
        self._undone.clear()
        return None

    def replace_text(self, path, text):
        """Do what replace_at does, with the statements of the program that the text denotes."""
        return self.replace_at(path, read_program(text))

    def undo(self):
        """Remove the current version and return True if there is more than one; otherwise return False."""
        if len(self._versions) == 1:
            return False
        self._undone.append((self._versions.pop(), self._steps.pop()))
        return True

    def redo(self):
        """Take back the last undo that has not been taken back, and return True; return False if there is none."""
        if not self._undone:
            return False
        version, step = self._undone.pop()
        self._versions.append(version)
        self._steps.append(step)
        return True

    @property
    def program(self):
        """The current version."""
        return self._versions[-1]

    @property
    def versions(self):
        """The tuple of all versions, the first one first."""
        return tuple(self._versions)

    @property
    def flow(self):
        """The flow graph of all versions."""
        return self._flow

    def __len__(self):
        return len(self._versions)

    def __iter__(self):
        return iter(self._steps)
