"""[77], [78]: spreads."""

import random
import unittest

from helper import Case, odd_values
from nonearer.distances import distance
from nonearer.errors import Refused
from nonearer.spread import check_spread, home_of, moves_for, shard_count, spread_out, strays

ONE, TWO = (4, (0, 0), ()), (9, (3, 1), (("red", 1),))
SPREADS = (("keys", ()), ("keys", (0,)), ("keys", (5, 9)), ("rest", 1), ("rest", 3), ("centres", "sum", ((0, 0),)),
           ("centres", "most", ((0, 0), (4, 4), (0, 0), (-3, 1))))


class CheckTest(Case):

    def test_spreads(self):
        for spread in SPREADS:
            self.assertIsNone(check_spread(spread, 2))
        self.assertIsNone(check_spread(value=("rest", 1000), places=1))
        self.assertIsNone(check_spread(("centres", "unlike", ((1,),)), 1))

    def test_no_spreads(self):
        wrong = ["keys", (), ("keys",), ("keys", 5), ("keys", [5]), ("keys", (5, 5)), ("keys", (9, 5)), ("keys", (-1,)),
                 ("keys", (True,)), ("keys", (1.0,)), ("keys", ("a",)), ("keys", (1, "a")), ("keys", (), ()),
                 ["keys", ()], ("Keys", ()), ("rest",), ("rest", 0), ("rest", -1), ("rest", True), ("rest", 2.0),
                 ("rest", None), ("rest", (2,)), ("rest", 2, 2), ("centres",), ("centres", "sum"),
                 ("centres", "sum", ()), ("centres", "sum", [(0, 0)]), ("centres", "sum", (0, 0)),
                 ("centres", "sum", ((0,),)), ("centres", "sum", ((0, 0), (0,))), ("centres", "sum", ((0, True),)),
                 ("centres", "sun", ((0, 0),)), ("centres", None, ((0, 0),)), ("centres", "sum", ((0, 0),), 1),
                 ("centres", ((0, 0),), "sum"), ("centre", "sum", ((0, 0),)), (1, 2), (None, ()), ("key", (5,)), ("", ()),
                 ("rests", 2), ("keys", 2), ("rest", (5,))]
        for value in odd_values() + wrong:
            self.refuses(Refused("spread"), check_spread, value, 2)
        for odd in odd_values():
            if odd.__class__ is not bool:
                self.refuses(Refused("spread"), check_spread, ("rest", odd), 2)
            for value in ((odd, ()), ("keys", odd), ("keys", (odd,)), ("keys", (1, odd)), ("centres", odd, ((0, 0),)),
                          ("centres", "sum", odd), ("centres", "sum", ((0, 0), odd)), ("centres", "sum", ((0, odd),))):
                self.refuses(Refused("spread"), check_spread, value, 2)

    def test_the_places_matter_for_centres_alone(self):
        self.refuses(Refused("spread"), check_spread, ("centres", "sum", ((0, 0),)), 3)
        self.assertIsNone(check_spread(("keys", (1,)), 3))

    def test_shards(self):
        self.same(tuple(shard_count(spread) for spread in SPREADS), (1, 2, 3, 1, 3, 1, 4))
        self.same(shard_count(spread=("rest", 40)), 40)


class HomeTest(Case):

    def test_the_example(self):
        self.same(home_of(("keys", (5, 9)), TWO), 2)
        self.same(moves_for(("rest", 2), ({4: ONE, 9: TWO}, {})), ((0, 1, (9,)),))

    def test_keys(self):
        homes = [home_of(("keys", (5, 9)), (key, (0,), ())) for key in (0, 4, 5, 8, 9, 10, 10 ** 9)]
        self.assertEqual(homes, [0, 0, 1, 1, 2, 2, 2])
        self.same(home_of(("keys", ()), ONE), 0)
        self.same(home_of(("keys", (0,)), (0, (0,), ())), 1)

    def test_rests(self):
        self.assertEqual([home_of(("rest", 3), (key, (0,), ())) for key in (0, 1, 2, 3, 10)], [0, 1, 2, 0, 1])
        self.same(home_of(spread=("rest", 1), item=TWO), 0)

    def test_centres(self):
        spread = ("centres", "sum", ((0, 0), (4, 0), (0, 0), (4, 1)))
        self.assertEqual([home_of(spread, (1, vector, ())) for vector in ((0, 0), (2, 0), (3, 0), (9, 9), (2, 9))],
                         [0, 0, 1, 3, 3])
        self.same(home_of(("centres", "square", ((0, 0), (3, 3))), (1, (0, 4), ())), 1)
        self.same(home_of(("centres", "unlike", ((0, 0), (3, 3))), (1, (0, 4), ())), 0)


class StatesTest(Case):

    def random_states(self, draw, spread):
        """Returns a tuple of states, one for each shard, with items anywhere."""
        states = [{} for _ in range(shard_count(spread))]
        for key in draw.sample(range(40), draw.randint(0, 15)):
            vector = (draw.randint(-4, 4), draw.randint(-4, 4))
            draw.choice(states)[key] = (key, vector, ())
        return tuple(states)

    def test_nothing(self):
        for spread in SPREADS:
            states = spread_out(spread, {})
            self.assertEqual(states, ({},) * shard_count(spread))
            self.same(strays(spread, states), ())
            self.same(moves_for(spread, states), ())

    def test_spread_out(self):
        state = {4: ONE, 9: TWO}
        self.assertEqual(spread_out(("rest", 2), state), ({4: ONE}, {9: TWO}))
        self.assertEqual(spread_out(spread=("keys", ()), state=state), ({4: ONE, 9: TWO},))
        self.assertEqual(spread_out(("keys", (1, 2)), state), ({}, {}, {4: ONE, 9: TWO}))

    def test_what_is_returned_is_new(self):
        state = {4: ONE}
        states = spread_out(("rest", 2), state)
        states[0][8] = states[1][9] = TWO
        self.assertEqual(state, {4: ONE})
        self.assertEqual(spread_out(("rest", 2), state), ({4: ONE}, {}))

    def test_strays_and_moves(self):
        items = {key: (key, (0, 0), ()) for key in range(10)}
        states = ({7: items[7], 0: items[0], 4: items[4]}, {1: items[1], 5: items[5], 3: items[3]},
                  {9: items[9], 8: items[8], 6: items[6]})
        self.same(strays(("rest", 3), states), ((3, 1, 0), (4, 0, 1), (5, 1, 2), (6, 2, 0), (7, 0, 1), (9, 2, 0)))
        self.same(moves_for(("rest", 3), states), ((0, 1, (4, 7)), (1, 0, (3,)), (1, 2, (5,)), (2, 0, (6, 9))))
        self.same(strays(spread=("rest", 3), states=({}, {}, {})), ())
        self.same(moves_for(spread=("rest", 3), states=({0: items[0]}, {}, {})), ())

    def test_moves_go_by_shard_and_home_not_by_key(self):
        items = {key: (key, (0, 0), ()) for key in (1, 2, 5)}
        states = ({5: items[5]}, {2: items[2]}, {1: items[1]})
        self.same(moves_for(("rest", 3), states), ((0, 2, (5,)), (1, 2, (2,)), (2, 1, (1,))))

    def test_after_the_moves_all_are_at_home(self):
        draw = random.Random(78)
        for _ in range(100):
            spread = draw.choice(SPREADS)
            states = self.random_states(draw, spread)
            before = tuple(dict(state) for state in states)
            found, moves = strays(spread, states), moves_for(spread, states)
            self.assertEqual(states, before)
            self.same(moves, tuple(sorted(moves)))
            self.assertEqual(len({move[:2] for move in moves}), len(moves))
            self.assertTrue(all(source != home and keys == tuple(sorted(set(keys))) for source, home, keys in moves))
            self.same(tuple(sorted((key, source, home) for source, home, keys in moves for key in keys)), found)
            left = tuple(dict(state) for state in states)
            for source, home, keys in moves:
                for key in keys:
                    left[home][key] = left[source].pop(key)
            self.same(strays(spread, left), ())
            union = {key: item for state in states for key, item in state.items()}
            self.assertEqual(left, spread_out(spread, union))

    def test_items_at_home_by_their_distance(self):
        draw = random.Random(77)
        spread = SPREADS[-1]
        for states in [self.random_states(draw, spread) for _ in range(20)]:
            union = {key: item for state in states for key, item in state.items()}
            for shard, state in enumerate(spread_out(spread, union)):
                for key, item in state.items():
                    away = [distance("most", item[1], centre) for centre in spread[2]]
                    self.assertEqual((union[key], shard), (item, away.index(min(away))))


if __name__ == "__main__":
    unittest.main()
