"""Runs of flow graphs on stores, and experiments by which two flow graphs are told apart."""

from flowform.comparing import compare
from flowform.graphs import follower


def observe(graph, meaning, store, *, most):
    """Return the store after a run with at most so many calls, and its outcome if it has ended, otherwise None."""
    tables = dict(meaning)
    node = graph[0]
    for _ in range(most):
        if node[0] == "outcome":
            break
        store, answer = tables[node[1]][store]
        node = graph[follower(node, answer)]
    if node[0] == "call" or node[1] == "hang":
        return (store, None)
    return (store, node[1])


def experiment(first, second):
    """Return None if the flow graphs are equivalent, and otherwise a meaning, a store and a number of calls."""
    difference = compare(first, second)
    if difference is None:
        return None
    answers, _, told, _ = difference
    names = sorted({node[1] for node in first + second if node[0] == "call"})
    meaning = tuple([(name, _table(answers, told == name + "()")) for name in names])
    return (meaning, 0, len(answers) + 1)


def _table(answers, is_first):
    """Return the table of a name; is_first tells if the first flow graph calls this name after the answers."""
    many = len(answers)
    table = [(number + 1, answer) for number, answer in enumerate(answers)]
    table.append((many + 1, True) if is_first else (many + 2, True))
    # What the call behind the answers has left must not change any more, whatever is called.
    table.extend([(many + 1, True), (many + 2, True)])
    return tuple(table)
