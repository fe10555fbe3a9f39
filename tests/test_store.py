"""[83], [84], [85], [86], [87], [88]: the store, and what cuts leave of it."""

import itertools
import random
import unittest

from helper import ALL, FORMS, KINDS, Case, answer_by_words, odd_values, parts_of, some_filter, some_labels, some_vector
from nonearer.cuts import all_cuts, cut, played
from nonearer.disk import Disk
from nonearer.errors import Broken, InvalidItem, InvalidNumber, InvalidQuestion, Refused
from nonearer.log import record_cells
from nonearer.lots import is_sound
from nonearer.moves import book_of
from nonearer.plain import done, done_all, state_of
from nonearer.snapshots import snapshot_cells
from nonearer.spread import home_of, shard_count, strays
from nonearer.store import Store
from nonearer.tales import lost_keys
from nonearer.together import Together, is_together

FOUR, NINE = (4, (0, 0), ()), (9, (3, 0), ())
KEYS = ("keys", (5,))
SPREADS = {1: (("keys", ()), ("rest", 1), ("centres", "sum", ((0, 0),))),
           2: (("keys", (3,)), ("rest", 2), ("centres", "sum", ((0, 0), (2, 2)))),
           3: (("keys", (2, 4)), ("rest", 3), ("centres", "most", ((0, 0), (2, 2), (-2, 1))))}


def store_on(disks, spread=KEYS, **named):
    """Returns a store with two places on some disks, by distances by sum."""
    return Store(disks, spread, 2, **{"kind": "sum", **named})


def two_disks():
    """Returns a tuple of two empty disks."""
    return Disk({}), Disk({})


def records_of(entries):
    """Returns the cells of the records of some entries."""
    return sum((record_cells(entry) for entry in entries), ())


def some_item(draw, keys=6):
    """Returns a random item with one of so many keys."""
    return draw.randrange(keys), some_vector(draw, 2, 3), some_labels(draw, "ab", 0, 2)


class OpenTest(Case):

    def test_the_examples(self):
        disk = Disk({})
        store = Store((disk, disk), KEYS, 2, kind="sum")
        self.same((store.put(FOUR), store.put(NINE), store.sync(), store.take(4), store.tale()[1]), (0, 1, None, 0, (0, 1)))
        self.same((store.ask(("sum", (1, 0), 2, ALL)).answer, store.move(1, 0, (9,), stop=1)), (((2, 9),), None))
        again = Store((cut(disk, (0, 0, 0)),) * 2, KEYS, 2, kind="sum")
        self.same((sorted(again.all_items()), again.owner_of(9)), ([4, 9], 1))
        self.same(lost_keys({}, *store.tale(), again.all_items()), ())

    def test_a_new_store(self):
        disks = two_disks()
        store = Store(disks, KEYS, 3)
        self.same((store.disks[0] is disks[0], store.spread, store.places), (True, KEYS, 3))
        self.same((store.kind, store.form, store.room), ("square", "boxes", 8))
        self.same([disk.names() for disk in disks], [("s0.l0",), ("s1.l0",)])
        self.same((store.all_items(), store.owner_of(0), store.tale()), ({}, None, ((), ())))
        self.assertEqual([parts_of(book) for book in store.books()], [({}, {}, {}, 0)] * 2)
        for index, state in store.shards():
            self.assertEqual((state, index.kind, index.form, index.room), ({}, "square", "boxes", 8))
            self.assertTrue(is_sound(index, state))
        store = Store(places=1, disks=(Disk({}),), spread=("keys", ()), kind="most", form="cells", room=1)
        self.same((store.kind, store.form, store.room), ("most", "cells", 1))
        self.assertRaises(TypeError, Store, disks, KEYS, 2, "sum")

    def test_what_is_told_may_be_changed(self):
        store = store_on(two_disks())
        store.put(FOUR)
        store.all_items().clear()
        store.shards()[0][1].clear()
        self.assertEqual(store.all_items(), {4: FOUR})
        self.assertEqual(store.shards()[0][1], {4: FOUR})
        self.same(store.ask(("sum", (0, 0), 1, ALL)).answer, ((0, 4),))

    def test_names_of_vaults(self):
        disk = Disk({})
        Store((disk,) * 12, ("rest", 12), 1)
        self.same(disk.names(), tuple(sorted(f"s{shard}.l0" for shard in range(12))))

    def test_wrong_arguments(self):
        disks = two_disks()
        for odd in odd_values() + [("keys", (5, 5)), ("keys", [5]), ("rest", 0), ("rest", True), ("centres", "sum", ()),
                                   ("centres", "sum", ((0,), (1,))), ("centres", "sums", ((0, 0),)), "keys", ()]:
            self.refuses(Refused("spread"), store_on, disks, odd)
            self.refuses(Refused("spread"), store_on, None, odd, kind="no", form="no", room=0)
        for odd in odd_values() + [(), disks[:1], disks + disks[:1], list(disks), "ab", 2]:
            self.refuses(Refused("disks"), store_on, odd)
            self.refuses(Refused("disks"), store_on, odd, kind="no", form="no", room=0)
        for odd in odd_values() + ["sums", "", ("sum",), 0]:
            self.refuses(Refused("kind"), store_on, disks, kind=odd, form=odd, room=odd)
            self.refuses(Refused("form"), store_on, disks, form=odd, room=odd)
        for odd in odd_values() + [0, -1, "8", (8,)]:
            self.refuses(InvalidNumber("room"), store_on, disks, room=odd)
        self.same([disk.calls() for disk in disks], [(), ()])

    def test_broken_vaults(self):
        for files, word in (({"s1.l0": (0, 9)}, "record"), ({"s1.s1": (1,), "s1.l1": ()}, "snapshot"), ({"s1.l1": ()}, "log"),
                            ({"s1.l0": records_of((("here", 0),))}, "entry")):
            disk = Disk(files)
            self.refuses(Broken(word), store_on, (disk, disk))
            # The vault before it may have been mended.
            self.assertIn("s0.l0", disk.names())
            self.same(dict(disk.image())[list(files)[0]], files[list(files)[0]])
        disk = Disk({"s0.l0": (0, 9), "s1.l1": ()})
        self.refuses(Broken("record"), store_on, (disk, disk))
        self.same(disk.calls(), ())

    def test_broken_shards(self):
        put = ("deed", ("put", FOUR))
        for one, other in (((put,), (put,)), ((put,), (("come", 3, 0, (FOUR,)), ("here", 3))),
                           ((("come", 3, 2, (FOUR,)),), ()), ((put, ("gone", 3, 2, (4,))), ()),
                           ((put, ("gone", 3, 1, (4,))), ()), ((put, ("gone", 3, 1, (4,))), (("come", 3, 0, (NINE,)),)),
                           ((put, ("gone", 3, 1, (4,))), (("come", 3, 1, (FOUR,)),))):
            disk = Disk({"s0.l0": records_of(one), "s1.l0": records_of(other)})
            self.refuses(Broken("shards"), store_on, (disk, disk))
            self.same(disk.image(), (("s0.l0", records_of(one)), ("s1.l0", records_of(other))))

    def test_broken_places(self):
        put, gone = ("deed", ("put", FOUR)), ("gone", 3, 1, (4,))
        short, long = (7, (0,), ()), (8, (0, 0, 0), ())
        for one, other in (((("deed", ("put", short)),), ()), ((), (put, ("deed", ("put", long)))),
                           ((("come", 3, 1, (NINE, (10, (0,), ()))),), ()),
                           ((put, ("deed", ("put", short)), gone), (("come", 3, 0, (FOUR,)),))):
            disk = Disk({"s0.l0": records_of(one), "s1.l0": records_of(other)})
            self.refuses(Broken("places"), store_on, (disk, disk))
            # Nothing has been settled then.
            self.same(disk.image(), (("s0.l0", records_of(one)), ("s1.l0", records_of(other))))
        # Shards that do not agree are told first.
        disk = Disk({"s0.l0": records_of((put, ("deed", ("put", short)))), "s1.l0": records_of((put,))})
        self.refuses(Broken("shards"), store_on, (disk, disk))
        disk = Disk({"s0.l0": records_of((("deed", ("put", short)),)), "s1.l0": (0, 9)})
        self.refuses(Broken("record"), store_on, (disk, disk))

    def test_what_was_there(self):
        book = book_of((("deed", ("put", FOUR)), ("deed", ("put", NINE)), ("gone", 3, 1, (9,))))
        disk = Disk({"s0.s1": snapshot_cells(book), "s0.l1": records_of((("deed", ("take", 7)),)),
                     "s1.l0": records_of((("come", 3, 0, (NINE,)),))})
        store = store_on((disk, disk))
        self.assertEqual([parts_of(one) for one in store.books()], [({4: FOUR}, {}, {}, 4), ({9: NINE}, {}, {}, 4)])
        self.same((store.owner_of(4), store.owner_of(9), store.owner_of(7)), (0, 1, None))
        self.same(store.tale(), ((), ()))
        # A move that has not been given away is dropped.
        disk = Disk({"s0.l0": records_of((("deed", ("put", NINE)),)), "s1.l0": records_of((("come", 3, 0, (NINE,)),))})
        store = store_on((disk, disk))
        self.assertEqual([parts_of(one) for one in store.books()], [({9: NINE}, {}, {}, 0), ({}, {}, {}, 4)])
        self.same(store.owner_of(key=9), 0)


class DeedTest(Case):

    def test_owners_and_homes(self):
        store = store_on(two_disks())
        self.same([store.put(item=item) for item in (FOUR, NINE, (5, (1, 1), ()))], [0, 1, 1])
        store.move(1, 0, (9,))
        self.same((store.owner_of(9), store.put((9, (7, 7), ())), store.owner_of(9)), (0, 0, 0))
        self.same((store.take(key=9), store.take(9), store.owner_of(9)), (0, None, None))
        self.same(store.put(NINE), 1)
        self.assertEqual(store.all_items(), {4: FOUR, 9: NINE, 5: (5, (1, 1), ())})
        self.same(store.tale()[0], (("put", FOUR), ("put", NINE), ("put", (5, (1, 1), ())), ("put", (9, (7, 7), ())),
                                    ("take", 9), ("put", NINE)))

    def test_a_take_of_nothing_writes_nothing(self):
        disks = two_disks()
        store = store_on(disks)
        calls = [disk.calls() for disk in disks]
        self.assertIsNone(store.take(4))
        self.same(([disk.calls() for disk in disks], store.tale()), (calls, ((), ())))

    def test_wrong_items_and_keys(self):
        store = store_on(two_disks())
        store.put(FOUR)
        for odd in odd_values() + [(), (4, (0, 0)), [4, (0, 0), ()], 4, "item"]:
            self.refuses(InvalidItem(-1), store.put, odd)
        for at, values in enumerate((odd_values() + [-1, "4", (4,)], odd_values() + [(), (0,), (0, 0, 0), (0, True), [0, 0]],
                                     odd_values() + [(("a",),), (("A", 1),), (("b", 1), ("a", 1)), [("a", 1)]])):
            for odd in values:
                self.refuses(InvalidItem(at), store.put, FOUR[:at] + (odd,) + FOUR[at + 1:])
        for odd in odd_values() + [-1, "4", (4,)]:
            self.refuses(InvalidNumber("key"), store.take, odd)
        self.same(store.tale(), ((("put", FOUR),), ()))
        self.assertEqual(store.all_items(), {4: FOUR})

    def test_which_deeds_are_safe(self):
        store = store_on(two_disks())
        for item in (FOUR, NINE, (3, (1, 1), ())):
            store.put(item)
        self.same(store.tale()[1], ())
        store.sync()
        self.same(store.tale()[1], (0, 1, 2))
        store.take(3)
        store.take(9)
        store.put((2, (0, 1), ()))
        self.same(store.tale()[1], (0, 1, 2))
        # A move makes both of its shards safe, but for what is written last.
        store.move(0, 1, (4,))
        self.same(store.tale()[1], (0, 1, 2, 3, 4, 5))
        store.take(2)
        store.put((7, (0, 1), ()))
        self.same(store.fold(10 ** 9), ())
        self.same(store.tale()[1], (0, 1, 2, 3, 4, 5))
        self.same(store.fold(0), (0, 1))
        self.same(store.tale()[1], (0, 1, 2, 3, 4, 5, 6, 7))
        self.same(len(store.tale()[0]), 8)

    def test_steps_of_moves_make_deeds_safe(self):
        for stop, safe in ((0, ()), (1, ()), (2, (1,)), (3, (1,)), (4, (0, 1)), (5, (0, 1)), (6, (0, 1)), (7, (0, 1))):
            store = store_on(two_disks())
            store.put(FOUR)
            store.put(NINE)
            self.assertIsNone(store.move(0, 1, (4,), stop=stop))
            self.same(store.tale(), ((("put", FOUR), ("put", NINE)), safe))

    def test_a_put_elsewhere_makes_others_safe(self):
        disks = (Disk({}), Disk({}), Disk({}))
        store = store_on(disks, ("centres", "sum", ((0, 0), (9, 9), (-9, -9))))
        self.same((store.put((1, (0, 0), ())), store.put((2, (0, 1), ())), store.put((3, (-8, -8), ()))), (0, 0, 2))
        self.same((store.take(1), store.tale()[1]), (0, ()))
        counts = [len(disk.calls()) for disk in disks]
        self.same(store.put((1, (9, 8), ())), 1)
        self.same(store.tale()[1], (0, 1, 3))
        # The shard without a deed about the key is not synced, and one that is safe not again.
        self.same([len(disk.calls()) - count for disk, count in zip(disks, counts)], [1, 1, 0])
        store.take(1)
        store.sync()
        counts = [len(disk.calls()) for disk in disks]
        self.same(store.put((1, (-9, -9), ())), 2)
        self.same([len(disk.calls()) - count for disk, count in zip(disks, counts)], [0, 0, 1])
        # At the same home nothing needs to be safe.
        store.take(1)
        counts = [len(disk.calls()) for disk in disks]
        self.same(store.put((1, (-9, -9), ())), 2)
        self.same([len(disk.calls()) - count for disk, count in zip(disks, counts)], [0, 0, 1])


class AskTest(Case):

    def test_answers(self):
        store = store_on(two_disks())
        self.same(store.ask(question=("sum", (1, 0), 2, ALL)).answer, ())
        store.put(FOUR)
        store.put(NINE)
        value = store.ask(("sum", (1, 0), 1, ALL))
        self.assertIs(value.__class__, Together)
        self.same(value.answer, ((1, 4),))
        self.assertIs(store.is_shown(question=("sum", (1, 0), 1, ALL), value=value), True)
        for odd in odd_values() + [(value.answer, value.steps), Together(((2, 9),), value.steps), Together(value.answer, ()),
                                   Together(None, None), 0]:
            self.assertIs(store.is_shown(("sum", (1, 0), 1, ALL), odd), False)
        store.put((1, (1, 0), ()))
        self.assertIs(store.is_shown(("sum", (1, 0), 1, ALL), value), False)

    def test_wrong_questions(self):
        store = store_on(two_disks())
        good = ("sum", (1, 0), 2, ALL)
        for call in (store.ask, lambda question: store.is_shown(question, None)):
            for odd in odd_values() + [(), good[:3], list(good), 0]:
                self.refuses(InvalidQuestion(-1), call, odd)
            for at, wrong in enumerate((("sums", None), ((1,), (1, 0, 0), None), (0, True, None), (("al",), None))):
                for odd in wrong:
                    self.refuses(InvalidQuestion(at), call, good[:at] + (odd,) + good[at + 1:])
                    if at > 0:
                        # What is no question is told before another kind is.
                        self.refuses(InvalidQuestion(at), call, ("most",) + good[1:at] + (odd,) + good[at + 1:])
            for kind in ("square", "most", "unlike"):
                self.refuses(Refused("kind"), call, (kind,) + good[1:])


class MoveTest(Case):

    def test_moves(self):
        store = store_on(two_disks())
        for item in (FOUR, NINE, (3, (1, 1), ())):
            store.put(item)
        before = store.all_items()
        self.assertIsNone(store.move(source=0, target=1, keys=(3, 4), stop=7))
        self.assertEqual(store.all_items(), before)
        self.same((store.owner_of(3), store.owner_of(4), store.owner_of(9)), (1, 1, 1))
        self.assertEqual([parts_of(book)[1:] for book in store.books()], [({}, {}, 1)] * 2)
        self.same(store.ask(("sum", (0, 0), 9, ALL)).answer, answer_by_words(before, ("sum", (0, 0), 9, ALL)))
        store.move(1, 0, (9,))
        self.assertEqual([book.mark for book in store.books()], [2, 2])
        for index, state in store.shards():
            self.assertTrue(is_sound(index, state))

    def test_wrong_moves(self):
        store = store_on(two_disks())
        store.put(FOUR)
        store.put(NINE)
        image = [disk.image() for disk in store.disks]
        for odd in odd_values() + [-1, 2, "0"]:
            self.refuses(Refused("shard"), store.move, odd, 1, (4,), stop=odd)
            self.refuses(Refused("shard"), store.move, 0, odd, None, stop=8)
        self.refuses(Refused("shard"), store.move, 1, 1, (9,), stop=8)
        for keys in odd_values() + [(), (9,), (4, 9), [4], (4, 4), (True,), 4]:
            self.refuses(Refused("keys"), store.move, 0, 1, keys, stop=8)
        for stop in odd_values() + [8, -1, "7", (7,)]:
            self.refuses(InvalidNumber("stop"), store.move, 0, 1, (4,), stop=stop)
        self.same([disk.image() for disk in store.disks], image)
        self.same(store.tale()[1], ())

    def test_stops_behind_each_step(self):
        for folded, stop in itertools.product((False, True), range(8)):
            disks = two_disks()
            store = store_on(disks)
            for item in (FOUR, NINE, (3, (1, 1), ())):
                store.put(item)
            if folded:
                store.fold(0)
            store.move(0, 1, (3, 4), stop=stop)
            again = store_on(disks)
            self.assertEqual(again.all_items(), state_of((FOUR, NINE, (3, (1, 1), ()))))
            self.same([again.owner_of(key) for key in (3, 4, 9)], [0, 0, 1] if stop < 3 else [1, 1, 1])
            images = [disk.image() for disk in disks]
            self.assertEqual([parts_of(book)[1:3] for book in store_on(disks).books()], [({}, {})] * 2)
            self.same([disk.image() for disk in disks], images)

    def test_stops_between_each_two_shards(self):
        items = tuple((key, (key, 0), ()) for key in range(6))
        for is_one, (source, target), stop in itertools.product((False, True), itertools.permutations(range(3), 2), range(8)):
            disks = (Disk({}),) * 3 if is_one else (Disk({}), Disk({}), Disk({}))
            store = store_on(disks, ("rest", 3))
            for item in items:
                store.put(item)
            store.move(source, target, (source, source + 3), stop=stop)
            again = store_on(disks, ("rest", 3))
            self.assertEqual(again.all_items(), state_of(items))
            homes = [key % 3 if key % 3 != source or stop < 3 else target for key in range(6)]
            self.same([again.owner_of(key) for key in range(6)], homes)
            # The move may be made again, and back, behind whatever a stop has left.
            if stop < 3:
                again.move(source, target, (source, source + 3))
            again.move(target, source, (source, source + 3))
            self.same([again.owner_of(key) for key in range(6)], [0, 1, 2, 0, 1, 2])
            self.same(again.ask(("sum", (0, 0), 6, ALL)).answer, tuple((key, key) for key in range(6)))

    def test_level(self):
        disks = two_disks()
        store = store_on(disks)
        for item in (FOUR, NINE, (3, (9, 9), ()), (7, (0, 0), ())):
            store.put(item)
        self.same(store.level(), ())
        store = store_on(disks, ("centres", "sum", ((0, 0), (9, 9))))
        before = store.all_items()
        self.same(store.level(), ((0, 1, (3,)), (1, 0, (7, 9))))
        self.assertEqual(store.all_items(), before)
        self.same((store.level(), strays(store.spread, tuple(state for _, state in store.shards()))), ((), ()))
        self.same([store.owner_of(key) for key in (3, 4, 7, 9)], [1, 0, 0, 0])

    def test_folds(self):
        disks = two_disks()
        store = store_on(disks)
        store.put(FOUR)
        size = len(record_cells(("deed", ("put", FOUR))))
        for room in (size, size + 1, 10 ** 9):
            self.same(store.fold(room), ())
        self.same(store.fold(room=size - 1), (0,))
        self.same([disk.names() for disk in disks], [("s0.l1", "s0.s1"), ("s1.l0",)])
        store.put(NINE)
        self.same(store.fold(0), (1,))
        self.same([disk.names() for disk in disks], [("s0.l1", "s0.s1"), ("s1.l1", "s1.s1")])
        self.assertEqual(store.all_items(), {4: FOUR, 9: NINE})
        self.assertEqual(store_on(disks).all_items(), {4: FOUR, 9: NINE})
        for odd in odd_values() + [-1, "0", (0,)]:
            self.refuses(InvalidNumber("room"), store.fold, odd)

    def test_the_last_number(self):
        put = records_of((("deed", ("put", FOUR)),)) * 9
        disks = (Disk({"s0.l0": put}), Disk({"s1.s999999": snapshot_cells(book_of(())),
                                              "s1.l999999": records_of((("deed", ("put", NINE)),)) * 9}),
                 Disk({"s2.l0": records_of((("deed", ("put", (7, (1, 1), ()))),)) * 9}))
        store = store_on(disks, ("rest", 3))
        self.refuses(InvalidNumber("room"), store.fold, None)
        self.same(store.fold(10 ** 9), ())
        self.refuses(Refused("full"), store.fold, 0)
        # The shards before that one have been folded, those behind it have not.
        self.same([disk.names() for disk in disks], [("s0.l1", "s0.s1"), ("s1.l999999", "s1.s999999"), ("s2.l0",)])
        self.assertEqual(store.all_items(), state_of((FOUR, NINE, (7, (1, 1), ()))))


class RandomTest(Case):

    def test_stores_of_each_kind_and_form(self):
        draw = random.Random(86)
        for kind, form, shards in itertools.product(KINDS, FORMS, (1, 2, 3)):
            disks = tuple(Disk({}) for _ in range(shards))
            disks = draw.choice((disks, disks[:1] * shards))
            spread = draw.choice(SPREADS[shards])
            store = Store(disks, spread, 2, kind=kind, form=form, room=draw.choice((1, 2, 8)))
            state = {}
            for _ in range(60):
                state = self.step(draw, store, state)
                self.assertEqual(store.all_items(), state)
                owners = {key: shard for shard, (_, own) in enumerate(store.shards()) for key in own}
                self.assertEqual(sum(len(own) for _, own in store.shards()), len(state))
                self.assertEqual({key: store.owner_of(key) for key in state}, owners)
                for (index, own), book in zip(store.shards(), store.books()):
                    self.assertTrue(is_sound(index, own))
                    self.assertEqual((index.kind, index.form, index.room, own), (kind, form, store.room, book.state))
                question = kind, some_vector(draw, 2), draw.randint(1, 4), draw.choice((ALL, some_filter(draw, 2)))
                value = self.unchanged(store.ask, question)
                self.same(value.answer, answer_by_words(state, question))
                self.assertTrue(self.unchanged(store.is_shown, question, value) and is_together(store.shards(), question, value))
                if value.answer:
                    self.assertFalse(store.is_shown(question, Together(value.answer[1:], value.steps)))
            deeds, safe = store.tale()
            self.assertEqual(done_all({}, deeds), state)
            store.sync()
            self.same(store.tale()[1], tuple(range(len(deeds))))
            self.assertLessEqual(set(safe), set(range(len(deeds))))

    def step(self, draw, store, state):
        """Does something at random and returns the state of all items then."""
        act = draw.randint(0, 11)
        if act < 6:
            item = some_item(draw)
            owner = store.owner_of(item[0])
            self.same(store.put(item), home_of(store.spread, item) if owner is None else owner)
            return done(state, ("put", item))
        if act < 8:
            key = draw.randrange(6)
            owner = store.owner_of(key)
            self.same(store.take(key), owner)
            return done(state, ("take", key))
        if act == 8:
            store.sync()
        elif act == 9:
            store.fold(draw.choice((0, 16, 50)))
        elif act == 10:
            store.level()
            self.same(strays(store.spread, tuple(own for _, own in store.shards())), ())
        else:
            sources = [shard for shard, (_, own) in enumerate(store.shards()) if own]
            if sources and shard_count(store.spread) > 1:
                source = draw.choice(sources)
                own = sorted(store.shards()[source][1])
                target = draw.choice([shard for shard in range(shard_count(store.spread)) if shard != source])
                store.move(source, target, tuple(sorted(draw.sample(own, draw.randint(1, len(own))))))
        return state


class Stopped(Exception):
    """Raised by a disk whose calls have come to an end."""


class Fuse:
    """How many calls may still be made on some disks together."""

    def __init__(self, left):
        self.left = left


class FusedDisk(Disk):
    """A disk that makes no calls any more when a fuse, which several disks may share, has burned down."""

    def __init__(self, files, fuse):
        super().__init__(files)
        self.fuse = fuse

    def burn(self):
        if self.fuse.left == 0:
            raise Stopped()
        self.fuse.left -= 1

    def make(self, name):
        self.burn()
        super().make(name)

    def append(self, name, cells):
        self.burn()
        super().append(name, cells)

    def rename(self, name, to):
        self.burn()
        super().rename(name, to)

    def remove(self, name):
        self.burn()
        super().remove(name)

    def sync(self, name):
        self.burn()
        super().sync(name)

    def sync_names(self):
        self.burn()
        super().sync_names()


class CutTest(Case):
    """Stores on disks that are cut behind any call, one store behind another."""

    def setUp(self):
        self.draw = random.Random(88)

    def fused(self, files, is_one, left):
        """Returns disks with some files, one disk perhaps for all shards, which make so many calls together."""
        fuse = Fuse(left)
        if is_one:
            return (FusedDisk(files[0], fuse),) * len(files)
        return tuple(FusedDisk(own, fuse) for own in files)

    def cut_files(self, disks):
        """Returns the files that a random cut leaves of each disk; one disk for all is cut once."""
        left = {}
        for disk in disks:
            if id(disk) not in left:
                choice = tuple(self.draw.choice((0, 0, 1, 2, 5, 99)) for _ in range(self.draw.randint(0, 6)))
                left[id(disk)] = dict(cut(disk, choice).image())
        return [left[id(disk)] for disk in disks]

    def do_things(self, store, many, moved):
        """Does random deeds and other things, and notes the shards that moves touch."""
        for _ in range(many):
            act = self.draw.randint(0, 13)
            if act < 6:
                item = some_item(self.draw)
                store.put(item)
            elif act < 9:
                store.take(self.draw.randrange(6))
            elif act == 9:
                store.sync()
            elif act == 10:
                store.fold(self.draw.choice((0, 16)))
            elif act == 11:
                moved.update(shard for source, home, _ in self.moves_home(store) for shard in (source, home))
                store.level()
            else:
                sources = [shard for shard, (_, own) in enumerate(store.shards()) if own]
                if sources and len(store.disks) > 1:
                    source = self.draw.choice(sources)
                    own = sorted(store.shards()[source][1])
                    target = self.draw.choice([shard for shard in range(len(store.disks)) if shard != source])
                    moved.update((source, target))
                    store.move(source, target, tuple(sorted(self.draw.sample(own, self.draw.randint(1, len(own))))))

    def moves_home(self, store):
        found = strays(store.spread, tuple(state for _, state in store.shards()))
        return [(shard, home, key) for key, shard, home in found]

    def run_store(self, files, is_one, spread, kind, form):
        """Opens a store on some files, uses it until it is cut, and returns what is left and what it told.

        That is `None` if it was cut while it was opened.
        """
        disks = self.fused(files, is_one, self.draw.choice((3, 20, 60, 200)))
        moved = set()
        try:
            store = Store(disks, spread, 2, kind=kind, form=form, room=2)
        except Stopped:
            return self.cut_files(disks), None
        before = store.all_items()
        owned = [dict(state) for _, state in store.shards()]
        self.assertTrue(all(len(own) == len(set(own)) for own in owned))
        try:
            self.do_things(store, self.draw.randint(0, 25), moved)
        except Stopped:
            pass
        return self.cut_files(disks), (before, store.tale(), owned, moved, store)

    def check_left(self, told, store):
        """Asserts what [88] says of a store that was opened behind another one that was cut."""
        before, (deeds, safe), owned, moved, _ = told
        after = store.all_items()
        self.same(lost_keys(before, deeds, safe, after), ())
        self.assertEqual(sum(len(state) for _, state in store.shards()), len(after))
        for shard, (_, state) in enumerate(store.shards()):
            if shard not in moved:
                self.assertTrue(any(state == done_all(owned[shard], own) for own in self.beginnings(told, shard)))

    def beginnings(self, told, shard):
        """Returns the beginnings of the deeds that were written on a shard, with all safe ones."""
        deeds, safe = told[1]
        rows = [(number, deed) for number, (deed, own, _) in enumerate(told[4]._deeds) if own == shard]
        least = max([at + 1 for at, (number, _) in enumerate(rows) if number in safe], default=0)
        self.assertEqual([deed for _, deed in rows], [deeds[number] for number, _ in rows])
        return [tuple(deed for _, deed in rows[:end]) for end in range(least, len(rows) + 1)]

    def check_answers(self, store, after, kind):
        """Asserts that answers are those in a state, and that a store that is opened again is the same."""
        for _ in range(2):
            question = kind, some_vector(self.draw, 2), self.draw.randint(1, 4), self.draw.choice((ALL, some_filter(self.draw, 2)))
            self.same(store.ask(question).answer, answer_by_words(after, question))

    def test_stores_one_behind_another(self):
        draw = self.draw
        opened, cut_openings = 0, 0
        for _ in range(220):
            shards = draw.choice((1, 2, 2, 3))
            kind, form, is_one = draw.choice(KINDS), draw.choice(FORMS), draw.randint(0, 1)
            files, last = [{}] * shards, ({}, ((), ()), [{}] * shards, set(), None)
            for _ in range(draw.randint(2, 5)):
                disks = tuple(Disk(own) for own in (files[:1] * shards if is_one else files))
                disks = disks[:1] * shards if is_one else disks
                store = Store(disks, draw.choice(SPREADS[shards]), 2, kind=kind, form=form, room=2)
                if last[4] is not None:
                    self.check_left(last, store)
                    opened += 1
                after = store.all_items()
                self.check_answers(store, after, kind)
                images, owners = [disk.image() for disk in disks], [state for _, state in store.shards()]
                again = Store(disks, store.spread, 2, kind=kind, form=form, room=2)
                self.assertEqual([state for _, state in again.shards()], owners)
                self.same([disk.image() for disk in disks], images)
                # The real next store is opened on the same files, with a fuse that may burn down at any time.
                files, told = self.run_store(files, is_one, draw.choice(SPREADS[shards]), kind, form)
                while told is None:
                    cut_openings += 1
                    files, told = self.run_store(files, is_one, draw.choice(SPREADS[shards]), kind, form)
                if last[4] is not None:
                    self.same(lost_keys(last[0], *last[1], told[0]), ())
                last = told
        self.assertGreater(opened, 300)
        self.assertGreater(cut_openings, 50)

    def test_every_cut_of_small_runs(self):
        for script in ((("put", FOUR), ("take", 4), ("put", (4, (9, 9), ()))),
                       (("put", FOUR), ("sync",), ("move", 0, 1, (4,)), ("take", 4)),
                       (("put", FOUR), ("fold", 0), ("take", 4), ("fold", 0)),
                       (("put", FOUR), ("move", 0, 1, (4,)), ("put", (4, (5, 5), ())), ("level",))):
            self.check_script(script)

    def check_script(self, script):
        """Runs a script on one disk, and asserts that each cut behind each call leaves what the tale tells."""
        disk = Disk({})
        spread = ("centres", "sum", ((0, 0), (9, 9)))
        store = store_on((disk, disk), spread)
        # What the tale was, by the number of calls made then.
        tales = [(0, ((), ())), (len(disk.calls()), store.tale())]
        for word, *rest in script:
            getattr(store, word)(*rest)
            tales.append((len(disk.calls()), store.tale()))
        calls = disk.calls()
        for many in range(len(calls) + 1):
            before = [tale for count, tale in tales if count <= many][-1]
            behind = [tale for count, tale in tales if count > many][:1] or [before]
            for image in all_cuts(played({}, calls[:many])):
                left = Disk(dict(image))
                after = store_on((left, left), spread).all_items()
                self.same(lost_keys({}, behind[0][0], before[1], after), ())

    def test_settling_is_cut(self):
        put, come, gone = ("deed", ("put", FOUR)), ("come", 0, 0, (FOUR,)), ("gone", 0, 1, (4,))
        for one, other in (((put,), (come,)), ((put, gone), (come,)), ((put, gone), (come, ("here", 0)))):
            start = {"s0.l0": records_of(one), "s1.l0": records_of(other) + (3,)}
            disk = Disk(start)
            store_on((disk, disk))
            for many in range(len(disk.calls()) + 1):
                for image in all_cuts(played(start, disk.calls()[:many])):
                    left = Disk(dict(image))
                    store = store_on((left, left))
                    self.assertEqual(store.all_items(), {4: FOUR})
                    self.same(store.owner_of(4), 0 if gone not in one else 1)
                    # And again, with each call of this opening.
                    for last in range(len(left.calls()) + 1):
                        again = Disk(dict(played(dict(image), left.calls()[:last]).image()))
                        self.assertEqual(store_on((again, again)).all_items(), {4: FOUR})


if __name__ == "__main__":
    unittest.main()
