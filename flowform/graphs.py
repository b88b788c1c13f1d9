"""Flow graphs: their runs, their classes of equivalent nodes, and minimal flow graphs."""

from flowform.errors import TooManyNodes

MOST_NODES = 40


def event_at(node):
    """Return the event at a node: the name of its call followed by (), or its outcome."""
    if node[0] == "call":
        return node[1] + "()"
    return node[1]


def follower(node, answer):
    """Return what follows a call after the answer."""
    return node[2] if answer else node[3]


def run_graph(graph, answers):
    """Return the tuple of the events of a run of the flow graph."""
    return events_of_run(graph[0], lambda node, answer: graph[follower(node, answer)], answers)


def events_of_run(start, node_after, answers):
    """Return the tuple of the events of a run from the start, which is a node or begins like one.

    node_after returns what follows a call after an answer.
    """
    node = start
    events = [event_at(node)]
    for answer in answers:
        if node[0] == "outcome":
            break
        node = node_after(node, answer)
        events.append(event_at(node))
    return tuple(events)


def event(graph, answers):
    """Return the event after all the answers."""
    return run_graph(graph, answers)[-1]


def classes(graph):
    """Return the classes of equivalent nodes, ordered by their smallest numbers."""
    found = {}
    for node, number in enumerate(_class_numbers(graph)):
        found.setdefault(number, []).append(node)
    return tuple([tuple(nodes) for nodes in found.values()])


def _class_numbers(graph):
    """Return the list of the numbers of the nodes' classes, which are numbered in the order of their first nodes."""
    numbers = _numbers_of_keys([node[:2] for node in graph])
    greatest = -1
    # Classes are only ever split, so they are final as soon as there are no more of them than before.
    while max(numbers) > greatest:
        greatest = max(numbers)
        keys = []
        for node, number in zip(graph, numbers):
            keys.append((number, *[numbers[other] for other in node[2:]]))
        numbers = _numbers_of_keys(keys)
    return numbers


def _numbers_of_keys(keys):
    """Return a list with a number for each key: equal keys get the same one, new keys the next one."""
    numbers = {}
    return [numbers.setdefault(key, len(numbers)) for key in keys]


def minimal(graph):
    """Return the minimal flow graph of the flow graph."""
    return rooted(graph, 0)


def rooted(graph, node):
    """Return the minimal flow graph with the behaviour of the node with this number."""
    numbers = _class_numbers(graph)
    merged = {}
    for one, number in zip(graph, numbers):
        merged[number] = _with_followers(one, numbers)
    return numbered(numbers[node], lambda number: merged[number])


def few_nodes(graph):
    """Return the minimal flow graph; raise TooManyNodes if it has more nodes than that of a program may have."""
    result = minimal(graph)
    if len(result) > MOST_NODES:
        raise TooManyNodes(len(result))
    return result


def numbered(start, node_of):
    """Return the flow graph of all nodes that are reached from the start, numbered as in minimal flow graphs.

    The start and the other nodes are given by keys; node_of returns the node of a key, in which the keys of
    the nodes that follow stand in place of their numbers.
    """
    nodes = {key: node_of(key) for key in breadth_first(start, lambda one: node_of(one)[2:])}
    order = [key for key in nodes if nodes[key][0] == "call"]
    order.extend([key for key in nodes if nodes[key][0] == "outcome"])
    numbers = {key: number for number, key in enumerate(order)}
    return tuple([_with_followers(nodes[key], numbers) for key in order])


def _with_followers(node, numbers):
    """Return the node with other numbers of the nodes that follow; numbers is indexed by what stands there."""
    return node[:2] + tuple([numbers[other] for other in node[2:]])


def breadth_first(start, followers):
    """Return a dict whose keys are all that a breadth-first search finds, in the order in which it finds them.

    followers returns the tuple of what follows one of them. The value tells how it has been found: a pair
    of what it follows and of its number among the followers of that, or None for the start.
    """
    found = {start: None}
    queue = [start]
    done = 0
    while done < len(queue):
        before = queue[done]
        done += 1
        for number, other in enumerate(followers(before)):
            if other not in found:
                found[other] = (before, number)
                queue.append(other)
    return found


def answers_to(found, last):
    """Return the first row of answers that leads to the last one, as a search has found it.

    found is a dict of breadth_first where the followers are, in this order, what follows after True and
    what follows after False.
    """
    answers = []
    while found[last] is not None:
        last, number = found[last]
        answers.append(number == 0)
    return tuple(answers[::-1])
