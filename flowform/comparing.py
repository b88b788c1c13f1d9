"""The first difference of two flow graphs, and matchings of their nodes."""

from flowform.graphs import answers_to, breadth_first, event_at, follower


def compare(first, second):
    """Return None if the flow graphs are equivalent, and otherwise their first difference."""
    found = _pairs(first, second)
    for pair in found:
        events = (event_at(first[pair[0]]), event_at(second[pair[1]]))
        if events[0] != events[1]:
            answers = answers_to(found, pair)
            return (answers, _names_of_calls(first, answers), events[0], events[1])
    return None


def _names_of_calls(graph, answers):
    """Return the tuple of the names of the calls that a run makes up to the last of the answers."""
    names = []
    node = graph[0]
    for answer in answers:
        names.append(node[1])
        node = graph[follower(node, answer)]
    return tuple(names)


def matching(first, second):
    """Return None if the flow graphs are not equivalent, and otherwise all pairs to which the same answers lead."""
    if compare(first, second) is not None:
        return None
    return tuple(sorted(list(_pairs(first, second))))


def _pairs(first, second):
    """Search the pairs of nodes to which the same answers lead; no pair follows one with an outcome."""
    return breadth_first((0, 0), lambda pair: _following_pairs(first[pair[0]], second[pair[1]]))


def _following_pairs(one, other):
    """Return the pairs of nodes that follow after True and after False, none if one of the two is an outcome."""
    return tuple(zip(one[2:], other[2:]))


def check_matching(first, second, pairs):
    """Return True if the pairs are a matching of the flow graphs, otherwise False."""
    listed = {pair: True for pair in pairs}
    if (0, 0) not in listed:
        return False
    for one, other in pairs:
        if not (0 <= one < len(first) and 0 <= other < len(second)):
            return False
        if event_at(first[one]) != event_at(second[other]):
            return False
        if not all([pair in listed for pair in _following_pairs(first[one], second[other])]):
            return False
    return True
