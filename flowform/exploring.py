"""The configurations of resolved programs."""

from flowform.assembling import assembled
from flowform.coding import check_weight, configuration_graph, flag_count
from flowform.paths import walk
from flowform.programs import operands, whole_conditions


def explored(resolved):
    """Return the flow graph of the configurations that runs of the resolved program reach."""
    check_weight(_weight(resolved))
    return configuration_graph(assembled(resolved))


def _weight(resolved):
    """Return the weight of a resolved program, which its configurations with calls never exceed."""
    calls = 0
    flags = []
    jumps = 0
    has_try = False
    for _, statement in walk(resolved):
        kind = statement[0]
        if kind == "call":
            calls += 1
        elif kind == "set":
            flags.append(statement[1])
        elif kind in ("break", "continue", "stop"):
            jumps += 1
        elif kind == "try":
            has_try = True
        for condition in whole_conditions(statement):
            leaves = _leaves(condition)
            calls += len([leaf for leaf in leaves if leaf[0] == "call"])
            flags.extend([leaf[1] for leaf in leaves if leaf[0] == "flag"])
    weight = calls << flag_count(flags)
    if has_try:
        return weight * (jumps + 1)
    return weight


def _leaves(condition):
    """Return a list of the calls and flags in a condition."""
    if condition[0] in ("call", "flag"):
        return [condition]
    found = []
    for part in operands(condition):
        found.extend(_leaves(part))
    return found
