"""Code: instructions with jumps to any of them."""

from flowform.errors import TooManyConfigurations
from flowform.graphs import events_of_run, few_nodes, follower, numbered

MOST_CONFIGURATIONS = 500

# The numbers of the instructions that follow are the last items of an instruction, from this index on.
FIRST_TARGETS = {"call": 2, "test": 2, "set": 3, "jump": 1, "stop": 2}


def targets(instruction):
    """Return the tuple of the numbers of the instructions that follow an instruction."""
    return instruction[FIRST_TARGETS[instruction[0]]:]


def with_targets(instruction, numbers):
    """Return the instruction with other numbers of those that follow; numbers is indexed by the old ones."""
    first = FIRST_TARGETS[instruction[0]]
    return instruction[:first] + tuple([numbers[target] for target in instruction[first:]])


def started(code):
    """Return the configuration of the code after no answers, in the form of _settled."""
    return _settled(code, 0, 0)


def answered(code, configuration, answer):
    """Return the configuration that follows after the answer to the call of a configuration."""
    _, _, at, flags = configuration
    return _settled(code, follower(code[at], answer), flags)


def _settled(code, at, flags):
    """Return the configuration of the code that a run at an instruction comes to without a call.

    flags is an integer with the bit 1 << n for each flag n that is True. A configuration begins like a node
    of a flow graph: ("call", name, at, flags) or ("outcome", outcome).
    """
    seen = set()
    # Without a call nothing but these two changes, so a run that has both again goes on like this forever.
    while (at, flags) not in seen:
        seen.add((at, flags))
        instruction = code[at]
        kind = instruction[0]
        if kind == "call":
            return ("call", instruction[1], at, flags)
        if kind == "stop":
            return ("outcome", instruction[1])
        if kind == "test":
            at = follower(instruction, _has_flag(flags, instruction[1]))
        elif kind == "set":
            _, flag, value, at = instruction
            flags = _with_flag(flags, flag, value)
        else:
            at = instruction[1]
    return ("outcome", "hang")


def _has_flag(flags, flag):
    return flags & (1 << flag) != 0


def _with_flag(flags, flag, value):
    bit = 1 << flag
    if value:
        return flags | bit
    return (flags | bit) - bit


def run_code(code, answers):
    """Return the tuple of the events of a run of the code."""
    return events_of_run(started(code), lambda configuration, answer: answered(code, configuration, answer), answers)


def code_graph(code):
    """Return the minimal flow graph with the behaviour of the code."""
    calls = [instruction for instruction in code if instruction[0] == "call"]
    flags = [instruction[1] for instruction in code if instruction[0] in ("test", "set")]
    check_weight(len(calls) << flag_count(flags))
    return few_nodes(configuration_graph(code))


def flag_count(numbers):
    """Return the number of flags if these numbers of flags occur: they are all those up to the greatest one."""
    return max(numbers, default=-1) + 1


def check_weight(weight):
    """Raise TooManyConfigurations if the weight of a program or of code is too great."""
    if weight > MOST_CONFIGURATIONS:
        raise TooManyConfigurations(weight)


def configuration_graph(code):
    """Return the flow graph of the configurations that runs of the code reach."""
    return numbered(started(code), lambda configuration: _node(code, configuration))


def _node(code, configuration):
    """Return the node of a configuration, with configurations in place of the numbers of the nodes that follow."""
    if configuration[0] == "outcome":
        return configuration
    return configuration[:2] + (answered(code, configuration, True), answered(code, configuration, False))
