"""[54], [55]: codes and coders."""

import itertools
import random
import unittest

from helper import KINDS, Case, distance_by_words, odd_values, some_state, some_vector
from nonearer.codes import (code_box, code_ceiling, code_floor, code_of, coded, coder_of, is_coder, ladder_of, widened)
from nonearer.errors import InvalidNumber, Refused

CODER = (((0, 1), (8, 8)), ((5, 5), (9, 9)))


def some_coder(draw, places):
    """Returns a random coder."""
    ladders = []
    for _ in range(places):
        ends = sorted(draw.sample(range(-8, 9), 2 * draw.randint(1, 3)))
        ladders.append(tuple(zip(ends[::2], ends[1::2])))
    return tuple(ladders)


class CoderTest(Case):

    def test_the_example(self):
        coder = coder_of(((0, 5), (1, 9), (8, 5)), 2)
        self.same(coder, CODER)
        self.same(code_of(coder, (8, 5)), (1, 0))
        self.same(code_floor("sum", coder, (1, 0), (6, 7)), 4)

    def test_coders(self):
        self.assertIs(is_coder(CODER, 2), True)
        self.assertIs(is_coder(value=(((-10 ** 20, 10 ** 20),),), places=1), True)
        self.assertIs(is_coder((((0, 0), (1, 1), (2, 9)),), 1), True)
        self.assertIs(is_coder(CODER, 1), False)
        self.assertIs(is_coder(CODER, 3), False)

    def test_no_coders(self):
        ladders = odd_values() + [(), ((),), ((1,),), ((1, 2, 3),), ([1, 2],), [(1, 2)], ((2, 1),), ((1, 2), (2, 3)),
                                  ((1, 5), (2, 3)), ((5, 6), (1, 2)), ((1, 2), (1, 2)), ((1, True),), ((1.0, 2),),
                                  (("a", "b"),), ((1, None),), ((1, 2), None), (1, 2), "ab", 1, ((1, 2), (0, 5))]
        for ladder in ladders:
            self.assertIs(is_coder((ladder, ((1, 2),)), 2), False)
            self.assertIs(is_coder((((1, 2),), ladder), 2), False)
        for value in odd_values() + [(), list(CODER), 2, "ab"]:
            self.assertIs(is_coder(value, 2), False)
        for odd in odd_values():
            self.assertIs(is_coder((((odd, 2),),), 1), False)
            self.assertIs(is_coder((((1, odd),),), 1), False)

    def test_ladders(self):
        self.same(ladder_of((5,), 3), ((5, 5),))
        self.same(ladder_of((5, 5, 5), 1), ((5, 5),))
        self.same(ladder_of((9, 1, 5), 1), ((1, 9),))
        self.same(ladder_of(integers=(9, 1, 5, 1), many=3), ((1, 1), (5, 5), (9, 9)))
        self.same(ladder_of((9, 1, 5, 1), 10 ** 20), ((1, 1), (5, 5), (9, 9)))
        self.same(ladder_of((0, 1, 2, 3, 4), 2), ((0, 2), (3, 4)))
        self.same(ladder_of((0, 1, 2, 3, 4), 3), ((0, 1), (2, 3), (4, 4)))
        self.same(ladder_of((-1, -2, 7), 2), ((-2, -1), (7, 7)))

    def test_ladders_by_the_words(self):
        draw = random.Random(55)
        for _ in range(200):
            integers = tuple(draw.randint(-9, 9) for _ in range(draw.randint(1, 15)))
            many = draw.randint(1, 12)
            different = sorted(set(integers))
            count = min(many, len(different))
            groups = {}
            for number, integer in enumerate(different):
                groups.setdefault(number * count // len(different), []).append(integer)
            self.assertEqual(len(groups), count)
            self.same(ladder_of(integers, many), tuple((groups[at][0], groups[at][-1]) for at in range(count)))

    def test_coders_of_vectors(self):
        for many in odd_values() + [0, -1, "1", (1,)]:
            self.refuses(InvalidNumber("many"), coder_of, ((0, 5),), many)
            self.refuses(InvalidNumber("many"), coder_of, (), many)
        self.refuses(Refused("none"), coder_of, vectors=(), many=1)
        draw = random.Random(56)
        for _ in range(100):
            places, many = draw.randint(1, 4), draw.randint(1, 5)
            vectors = tuple(some_vector(draw, places) for _ in range(draw.randint(1, 8)))
            coder = self.unchanged(coder_of, vectors, many)
            self.assertIs(is_coder(coder, places), True)
            self.same(coder, tuple(ladder_of(tuple(column), many) for column in zip(*vectors)))
            self.assertTrue(all(code_of(coder, vector) is not None for vector in vectors))


class CodeTest(Case):

    def test_the_ends_of_intervals_and_outside(self):
        wanted = {-1: None, 0: 0, 1: 0, 2: None, 7: None, 8: 1, 9: None}
        for integer, number in wanted.items():
            self.assertEqual(code_of(CODER, (integer, 9)), None if number is None else (number, 1))
            self.assertIsNone(code_of(coder=CODER, vector=(integer, 7)))

    def test_boxes(self):
        self.same(code_box(CODER, (0, 1)), ("box", (0, 9), (1, 9)))
        self.same(code_box(coder=CODER, code=(1, 0)), ("box", (8, 5), (8, 5)))
        self.same(code_ceiling("sum", CODER, (0, 1), (3, 7)), 5)
        self.same(code_ceiling(kind="most", coder=CODER, code=(0, 1), vector=(3, 7)), 3)
        self.same(code_floor(kind="most", coder=CODER, code=(0, 1), vector=(3, 7)), 2)

    def test_floors_and_ceilings_are_the_least_and_greatest_distances(self):
        draw = random.Random(54)
        for _ in range(60):
            places, kind = draw.randint(1, 2), draw.choice(KINDS)
            coder, vector = some_coder(draw, places), some_vector(draw, places, 9)
            by_code = {}
            for one in itertools.product(range(-9, 10), repeat=places):
                by_code.setdefault(code_of(coder, one), []).append(distance_by_words(kind, one, vector))
            by_code.pop(None, None)
            self.assertEqual(set(by_code), set(itertools.product(*[range(len(ladder)) for ladder in coder])))
            for code, away in by_code.items():
                self.same(code_floor(kind, coder, code, vector), min(away))
                self.same(code_ceiling(kind, coder, code, vector), max(away))

    def test_coded(self):
        draw = random.Random(57)
        state = some_state(draw, 12, 3)
        coder = coder_of(tuple(item[1] for item in state.values()), 3)
        codes = self.unchanged(coded, coder, state)
        self.assertEqual(codes, {key: code_of(coder, item[1]) for key, item in state.items()})
        codes.clear()
        self.assertEqual(len(coded(coder=coder, state=state)), 12)
        self.assertEqual(coded(coder, {}), {})
        self.refuses(Refused("outside"), coded, CODER, {1: (1, (0, 5), ()), 2: (2, (0, 6), ())})

    def test_widened(self):
        self.same(widened(CODER, (0, 5)), CODER)
        self.same(widened(coder=CODER, vector=(4, 7)), (((0, 4), (8, 8)), ((5, 7), (9, 9))))
        self.same(widened(CODER, (5, 8)), (((0, 1), (5, 8)), ((5, 5), (8, 9))))
        self.same(widened(CODER, (-5, 99)), (((-5, 1), (8, 8)), ((5, 5), (9, 99))))
        draw = random.Random(58)
        for _ in range(100):
            places = draw.randint(1, 3)
            coder, vector = some_coder(draw, places), some_vector(draw, places, 12)
            more = self.unchanged(widened, coder, vector)
            self.assertIs(is_coder(more, places), True)
            self.assertIsNotNone(code_of(more, vector))
            for ladder, wide, integer in zip(coder, more, vector):
                changed = [at for at in range(len(ladder)) if ladder[at] != wide[at]]
                self.assertEqual(len(changed), not any(low <= integer <= high for low, high in ladder))
                away = [min(abs(integer - low), abs(integer - high)) for low, high in ladder]
                self.assertTrue(all(at == away.index(min(away)) for at in changed))
            for _ in range(5):
                other = some_vector(draw, places, 9)
                if code_of(coder, other) is not None:
                    self.same(code_of(more, other), code_of(coder, other))


if __name__ == "__main__":
    unittest.main()
