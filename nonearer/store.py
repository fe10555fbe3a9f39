"""Stores: items on several shards, each with a vault on a disk and an index."""

from nonearer.basics import is_number, is_tuple_of
from nonearer.building import built, check_built
from nonearer.changes import after_deed, changed_into
from nonearer.errors import Broken, InvalidNumber, Refused
from nonearer.items import check_item
from nonearer.moves import are_agreed, move_steps, settling_steps
from nonearer.plain import union_of
from nonearer.questions import check_question, deed_key
from nonearer.spread import check_spread, home_of, moves_for, shard_count
from nonearer.together import is_together, together
from nonearer.vaults import Vault

MOST_STEPS = 7


def check_books(books, places):
    """Raises an error if the books of all shards cannot be those of one store of items with so many places."""
    if not are_agreed(books):
        raise Broken("shards")
    for book in books:
        items = list(book.state.values()) + [item for _, some in book.waiting.values() for item in some]
        if any([len(item[1]) != places for item in items]):
            raise Broken("places")


class Store:
    """Items that lie on several shards."""

    def __init__(self, disks, spread, places, *, kind="square", form="boxes", room=8):
        check_spread(spread, places)
        if not is_tuple_of(disks, shard_count(spread)):
            raise Refused("disks")
        check_built(kind, form, room)
        self.disks = disks
        self.spread = spread
        self.places = places
        self.kind = kind
        self.form = form
        self.room = room
        self._vaults = [Vault(disk, f"s{shard}") for shard, disk in enumerate(disks)]
        check_books(self.books(), places)
        self._make_steps(settling_steps(self.books()))
        self._shards = [(built(book.state, kind, form, room=room), book.state) for book in self.books()]
        # For each deed of the tale, its shard and how many entries had been written there with it.
        self._deeds = []
        # For each pair of a shard and a key, how many entries had been written there with the last deed about the key.
        self._last = {}

    def _make_steps(self, steps):
        """Makes steps of moves, as the vaults tell them apart."""
        for step in steps:
            vault = self._vaults[step[1]]
            if step[0] == "write":
                vault.write(step[2])
            else:
                vault.sync()

    def books(self):
        """Returns the tuple of the books of the shards."""
        return tuple([vault.book() for vault in self._vaults])

    def shards(self):
        """Returns the tuple of the pairs of a sound index and the state that a shard owns."""
        return tuple([(index, dict(state)) for index, state in self._shards])

    def _states(self):
        """Returns the tuple of the states that the shards own."""
        return tuple([state for _, state in self._shards])

    def all_items(self):
        """Returns the state of all items."""
        return union_of(self._states())

    def owner_of(self, key):
        """Returns the number of the shard that owns a key, `None` if there is none."""
        for shard, state in enumerate(self._states()):
            if key in state:
                return shard
        return None

    def _write(self, shard, deed):
        """Writes a deed on a shard."""
        vault = self._vaults[shard]
        vault.write(("deed", deed))
        index, state = self._shards[shard]
        self._shards[shard] = after_deed(index, state, deed)
        self._deeds.append((deed, shard, vault.written()))
        self._last[(shard, deed_key(deed))] = vault.written()

    def _sync_deeds_about(self, key, home):
        """Makes all deeds about a key safe that were written on other shards than its home."""
        for shard, vault in enumerate(self._vaults):
            if shard != home and self._last.get((shard, key), 0) > vault.synced():
                vault.sync()

    def put(self, item):
        """Puts an item at the owner of its key, or at its home if there is none, and returns the shard."""
        check_item(item, self.places)
        shard = self.owner_of(item[0])
        if shard is None:
            shard = home_of(self.spread, item)
            # A cut must not leave this put, and yet another item with this key that a lost deed took elsewhere.
            self._sync_deeds_about(item[0], shard)
        self._write(shard, ("put", item))
        return shard

    def take(self, key):
        """Takes the item with a key and returns the shard that owned it, `None` if there is none."""
        if not is_number(key):
            raise InvalidNumber("key")
        shard = self.owner_of(key)
        if shard is not None:
            self._write(shard, ("take", key))
        return shard

    def sync(self):
        """Makes all deeds safe."""
        for vault in self._vaults:
            vault.sync()

    def tale(self):
        """Returns the tuple of the deeds written since the opening, and the lot of the indices of the safe ones."""
        safe = [number for number, (_, shard, written) in enumerate(self._deeds)
                if written <= self._vaults[shard].synced()]
        return tuple([deed for deed, _, _ in self._deeds]), tuple(safe)

    def _check_asked(self, question):
        check_question(question, self.places)
        if question[0] != self.kind:
            raise Refused("kind")

    def ask(self, question):
        """Returns a right answer of all shards together to a question."""
        self._check_asked(question)
        return together(tuple(self._shards), question)

    def is_shown(self, question, value):
        """Returns whether any value is a right answer of all shards together to a question."""
        self._check_asked(question)
        return is_together(tuple(self._shards), question, value)

    def _renew(self, shard):
        """Brings the index and the state of a shard up to its book."""
        index, state = self._shards[shard]
        left = self._vaults[shard].book().state
        self._shards[shard] = (changed_into(index, state, left), left)

    def move(self, source, target, keys, *, stop=7):
        """Moves the items with some keys to another shard, or makes only the first steps of this."""
        steps = move_steps(self.books(), source, target, keys)
        if not is_number(stop) or stop > MOST_STEPS:
            raise InvalidNumber("stop")
        self._make_steps(steps[:stop])
        self._renew(source)
        self._renew(target)

    def level(self):
        """Moves all items home, and returns the moves."""
        moves = moves_for(self.spread, self._states())
        for source, home, keys in moves:
            self.move(source, home, keys)
        return moves

    def fold(self, room):
        """Makes a snapshot of each shard for which one is due, and returns the lot of their numbers."""
        if not is_number(room):
            raise InvalidNumber("room")
        folded = []
        for shard, vault in enumerate(self._vaults):
            if vault.is_due(room):
                vault.fold()
                folded.append(shard)
        return tuple(folded)
