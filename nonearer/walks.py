"""Graphs of items, and walks on them towards a vector."""

from nonearer.basics import is_number
from nonearer.errors import InvalidNumber, Refused
from nonearer.filters import passes
from nonearer.pairs import pair_of
from nonearer.queue import Queue


def is_key(state, value):
    """Returns whether any value is a key of a state."""
    return is_number(value) and value in state


def check_key(state, key):
    """Raises an error for any value that is no key of a state."""
    if not is_key(state, key):
        raise Refused("key")


def are_neighbours(state, key, value):
    """Returns whether any value is a tuple of different keys of a state, without this one."""
    if not isinstance(value, tuple) or not all([is_key(state, other) for other in value]):
        return False
    return key not in value and len(set(value)) == len(value)


def is_graph(state, value):
    """Returns whether any value is a graph of a state."""
    if not isinstance(value, dict) or len(value) != len(state):
        return False
    return all([is_key(state, key) and are_neighbours(state, key, others) for key, others in value.items()])


def by_distance(state, kind, key, others):
    """Returns the tuple of some keys, by the distance of their vectors from that of a key."""
    vector = state[key][1]
    return tuple([pair[1] for pair in sorted([pair_of(kind, vector, state[other]) for other in others])])


def graph_of(state, kind, many):
    """Returns the graph in which each key's neighbours are those of the `many` nearest others."""
    if not is_number(many):
        raise InvalidNumber("many")
    return {key: by_distance(state, kind, key, [other for other in state if other != key])[:many] for key in state}


def two_way(state, kind, graph):
    """Returns the graph in which two keys are neighbours of one another if one is a neighbour of the other."""
    neighbours = {key: list(graph[key]) for key in graph}
    for key, others in graph.items():
        for other in others:
            neighbours[other].append(key)
    return {key: by_distance(state, kind, key, sorted(set(neighbours[key]))) for key in neighbours}


def reached_keys(state, graph, key):
    """Returns the lot of all keys to which steps to neighbours lead from a key, also none."""
    check_key(state, key)
    reached = {key: True}
    waiting = [key]
    while len(waiting) > 0:
        others = [other for other in graph[waiting.pop()] if other not in reached]
        for other in others:
            reached[other] = True
        waiting.extend(others)
    return tuple(sorted(reached))


def nearest_neighbour(state, kind, graph, vector, here):
    """Returns the least pair of the neighbours of the key in a pair, the pair itself if there are none."""
    return min([pair_of(kind, vector, state[other]) for other in graph[here[1]]], default=here)


def walk(state, kind, graph, vector, key):
    """Returns the keys of a walk from a key to the nearest neighbour, as long as this is nearer."""
    check_key(state, key)
    keys = [key]
    here = pair_of(kind, vector, state[key])
    nearest = nearest_neighbour(state, kind, graph, vector, here)
    while nearest < here:
        here = nearest
        keys.append(here[1])
        nearest = nearest_neighbour(state, kind, graph, vector, here)
    return tuple(keys)


def visited_pairs(state, graph, question, key, room):
    """Returns the list of the pairs of at most `room` keys, each the nearest one to which visited keys lead."""
    kind, vector, _, _ = question
    pairs = []
    met = {key: True}
    queue = Queue([pair_of(kind, vector, state[key])])
    while len(pairs) < room and queue.how_many() > 0:
        pair = queue.take()
        pairs.append(pair)
        for other in graph[pair[1]]:
            if other not in met:
                met[other] = True
                queue.put(pair_of(kind, vector, state[other]))
    return pairs


def guess(state, graph, question, key, room):
    """Returns the first pairs of those that pass, of at most `room` keys that are visited from a key on."""
    if not is_number(room):
        raise InvalidNumber("room")
    check_key(state, key)
    _, _, many, sieve = question
    pairs = visited_pairs(state, graph, question, key, room)
    return tuple(sorted([pair for pair in pairs if passes(sieve, state[pair[1]])])[:many])
