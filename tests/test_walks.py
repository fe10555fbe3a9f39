"""[57], [58]: graphs, walks, and guesses that walks find."""

import random
import unittest

from helper import KINDS, Case, odd_values, pair_by_words, shuffled, some_filter, some_state, some_vector
from nonearer.errors import InvalidNumber, Refused
from nonearer.filters import passes
from nonearer.walks import graph_of, guess, is_graph, reached_keys, two_way, walk

STATE = {key: (key, (integer,), ()) for key, integer in ((1, 0), (2, 3), (3, 5), (4, 12), (5, 13))}
LINE = {1: (2,), 2: (1, 3), 3: (2, 4), 4: (3, 5), 5: ()}


def some_graph(draw, state):
    """Returns a random graph of a state."""
    keys = sorted(state)
    return {key: tuple(draw.sample([one for one in keys if one != key], draw.randint(0, min(3, len(keys) - 1))))
            for key in keys}


def reached_by_words(graph, key):
    """Returns the set of the keys to which steps lead."""
    reached = {key}
    while True:
        more = reached | {other for one in reached for other in graph[one]}
        if more == reached:
            return reached
        reached = more


def visited_by_words(state, graph, kind, vector, key, room):
    """Returns the visited keys, as [58] says."""
    visited = []
    while len(visited) < room:
        near = [key] if not visited else [one for own in visited for one in graph[own] if one not in visited]
        if not near:
            break
        visited.append(min(pair_by_words(kind, vector, state[one]) for one in near)[1])
    return visited


class GraphTest(Case):

    def test_nearest_others(self):
        self.assertEqual(graph_of(STATE, "sum", 0), {key: () for key in STATE})
        self.assertEqual(graph_of(STATE, "sum", 2), {1: (2, 3), 2: (3, 1), 3: (2, 1), 4: (5, 3), 5: (4, 3)})
        for many in (4, 5, 10 ** 20):
            self.assertEqual(graph_of(state=STATE, kind="sum", many=many)[2], (3, 1, 4, 5))
        self.assertEqual(graph_of({}, "sum", 3), {})
        self.assertEqual(graph_of({7: (7, (1, 1), ())}, "most", 3), {7: ()})

    def test_equal_distances_by_key(self):
        state = {key: (key, (0, 0), ()) for key in (5, 3, 9)}
        self.assertEqual(graph_of(state, "square", 2), {5: (3, 9), 3: (5, 9), 9: (3, 5)})

    def test_no_number(self):
        for many in odd_values() + [-1, "1", (1,)]:
            self.refuses(InvalidNumber("many"), graph_of, STATE, "sum", many)

    def test_is_graph(self):
        self.assertIs(is_graph(STATE, LINE), True)
        self.assertIs(is_graph({}, {}), True)
        for value in odd_values() + [(), tuple(LINE.items()), 1]:
            self.assertIs(is_graph(STATE, value), False)
        for others in odd_values() + [(1,), (9,), (2, 2), [2], (2, None), (2, True), (True,), (2.0,), ("a",), (-1,), 2]:
            self.assertIs(is_graph(STATE, {**LINE, 1: others}), False)
        for odd in odd_values():
            self.assertIs(is_graph(state=STATE, value={**LINE, 1: (2, odd)}), False)
        self.assertIs(is_graph(STATE, {key: LINE[key] for key in (1, 2, 3, 4)}), False)
        self.assertIs(is_graph(STATE, {**LINE, 6: ()}), False)
        self.assertIs(is_graph(STATE, {True: (2,), **{key: LINE[key] for key in (2, 3, 4, 5)}}), False)
        self.assertIs(is_graph(STATE, {**{key: LINE[key] for key in (1, 2, 3, 4)}, "5": ()}), False)

    def test_two_way(self):
        self.assertEqual(two_way(STATE, "sum", LINE), {1: (2,), 2: (3, 1), 3: (2, 4), 4: (5, 3), 5: (4,)})
        self.assertEqual(two_way(state={}, kind="sum", graph={}), {})

    def test_random_graphs(self):
        draw = random.Random(57)
        for _ in range(60):
            kind, places = draw.choice(KINDS), draw.randint(1, 3)
            state = some_state(draw, draw.randint(0, 9), places, 3)
            many = draw.randint(0, 10)
            graph = self.unchanged(graph_of, state, kind, many)
            self.assertIs(is_graph(state, graph), True)
            self.assertEqual(graph_of(shuffled(draw, state), kind, many), graph)
            ordered = {key: sorted(pair_by_words(kind, item[1], state[one]) for one in state if one != key)
                       for key, item in state.items()}
            self.assertEqual(graph, {key: tuple(pair[1] for pair in ordered[key][:many]) for key in state})
            other = some_graph(draw, state) if state else {}
            both = self.unchanged(two_way, state, kind, other)
            self.assertEqual(both, {key: tuple(one for _, one in ordered[key] if one in other[key] or key in other[one])
                                    for key in state})
            self.assertIs(is_graph(state, both), True)


class WalkTest(Case):

    def test_reached_keys(self):
        self.same(reached_keys(STATE, LINE, 1), (1, 2, 3, 4, 5))
        self.same(reached_keys(state=STATE, graph=LINE, key=5), (5,))

    def test_walks(self):
        self.same(walk(STATE, "sum", LINE, (6,), 1), (1, 2, 3))
        self.same(walk(STATE, "sum", LINE, (20,), 1), (1, 2, 3, 4, 5))
        self.same(walk(STATE, "sum", LINE, (6,), 5), (5,))
        self.same(walk(state=STATE, kind="sum", graph=LINE, vector=(3,), key=2), (2,))
        equal = {key: (key, (0,), ()) for key in (1, 2, 3)}
        self.same(walk(equal, "sum", {1: (3,), 2: (3, 1), 3: (2,)}, (9,), 3), (3, 2, 1))

    def test_no_key(self):
        for key in odd_values() + [0, 6, -1, "1", (1,), 10 ** 30]:
            self.refuses(Refused("key"), reached_keys, STATE, LINE, key)
            self.refuses(Refused("key"), walk, STATE, "sum", LINE, (6,), key)
            self.refuses(Refused("key"), guess, STATE, LINE, ("sum", (6,), 2, ("all",)), key, 3)
        self.refuses(Refused("key"), reached_keys, {}, {}, 1)

    def test_random_walks(self):
        draw = random.Random(58)
        for _ in range(100):
            kind, places = draw.choice(KINDS), draw.randint(1, 2)
            state = some_state(draw, draw.randint(1, 9), places, 3)
            graph, vector, key = some_graph(draw, state), some_vector(draw, places), draw.choice(list(state))
            self.same(self.unchanged(reached_keys, state, graph, key), tuple(sorted(reached_by_words(graph, key))))
            keys = self.unchanged(walk, state, kind, graph, vector, key)
            self.assertEqual(keys[0], key)
            pairs = [pair_by_words(kind, vector, state[one]) for one in keys]
            for here, one, pair in zip(keys, keys[1:] + (None,), pairs):
                near = min([pair_by_words(kind, vector, state[other]) for other in graph[here]], default=pair)
                self.assertEqual(near[1] if near < pair else None, one)


class GuessTest(Case):

    def test_guesses(self):
        question = ("sum", (6,), 2, ("all",))
        self.same([guess(STATE, LINE, question, 1, room) for room in range(5)],
                  [(), ((6, 1),), ((3, 2), (6, 1)), ((1, 3), (3, 2)), ((1, 3), (3, 2))])
        self.same(guess(STATE, LINE, ("sum", (13,), 1, ("all",)), 1, 99), ((0, 5),))
        self.same(guess(STATE, LINE, question, 5, 10 ** 20), ((7, 5),))
        self.same(guess(state=STATE, graph=LINE, question=("sum", (6,), 9, ("has", "a")), key=1, room=9), ())

    def test_no_room(self):
        for room in odd_values() + [-1, "1", (1,)]:
            self.refuses(InvalidNumber("room"), guess, STATE, LINE, ("sum", (6,), 2, ("all",)), 1, room)
            self.refuses(InvalidNumber("room"), guess, STATE, LINE, ("sum", (6,), 2, ("all",)), None, room)
        self.refuses(Refused("key"), guess, STATE, LINE, ("sum", (6,), 2, ("all",)), 6, 0)

    def test_random_guesses(self):
        draw = random.Random(59)
        for _ in range(100):
            kind, places, sieve = draw.choice(KINDS), draw.randint(1, 2), some_filter(draw, 2)
            state = some_state(draw, draw.randint(1, 9), places, 3)
            graph, vector, key = some_graph(draw, state), some_vector(draw, places), draw.choice(list(state))
            many = draw.randint(1, 5)
            before = ()
            for room in range(len(state) + 3):
                pairs = self.unchanged(guess, state, graph, (kind, vector, many, sieve), key, room)
                visited = visited_by_words(state, graph, kind, vector, key, room)
                passed = sorted(pair_by_words(kind, vector, state[one]) for one in visited if passes(sieve, state[one]))
                self.same(pairs, tuple(passed[:many]))
                self.assertTrue(all(one <= other for one, other in zip(pairs, before)))
                before = pairs
            self.assertEqual(set(visited), reached_by_words(graph, key))


if __name__ == "__main__":
    unittest.main()
