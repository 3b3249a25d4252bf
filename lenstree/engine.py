"""A store on a disk: a journal of its calls makes it survive crashes."""

from lenstree.answers import answer
from lenstree.disk import AREAS, Disk
from lenstree.errors import PowerError, RecordError
from lenstree.journal import frame, records_of
from lenstree.restore import stored_from
from lenstree.stored import Stored


class Engine:
    """A store whose calls are written to one of the two areas of a disk, the current one."""

    def __init__(self, disk, schema):
        self._disk = disk
        self._store = Stored(schema)
        self._area = 0
        self._generation = 1
        self._is_down = False
        self.tree = self._store.tree
        disk.wipe(0)
        disk.wipe(1)
        self._append(0, ("image", 1, self._store.image()))

    def take_store(self, disk, store, area, generation):
        """Become the engine of a store whose image and calls stand in this area of a disk."""
        self._disk = disk
        self._store = store
        self._area = area
        self._generation = generation
        self.tree = store.tree

    def _refuse_when_down(self):
        """Raise PowerError if the engine is down."""
        if self._is_down:
            raise PowerError()

    def _append(self, area, entry):
        """Append the frame of a record to an area and make it durable. Raise PowerError."""
        self._disk.append(area, frame(entry))
        self._disk.sync(area)

    def _note(self, entry):
        """Write the record of a call that was done to the journal. Raise PowerError."""
        try:
            self._append(self._area, entry)
        except PowerError:
            self._is_down = True
            raise
        self.tree = self._store.tree

    def show(self, version):
        """Return the state of a live version. Raise PowerError or VersionError."""
        self._refuse_when_down()
        return self._store.show(version)

    def complements(self, node):
        """Return the list of the complements of the edge above a node, [] for the root. Raise PowerError."""
        self._refuse_when_down()
        return self._store.complements(node)

    def home(self):
        """Return the number of the home. Raise PowerError."""
        self._refuse_when_down()
        return self._store.home()

    def kept(self):
        """Return the state of the home. Raise PowerError."""
        self._refuse_when_down()
        return self._store.kept()

    def move_view(self):
        """Return None, or the goal, the mark and the copy of the move that is going on. Raise PowerError."""
        self._refuse_when_down()
        return self._store.move_view()

    def image(self):
        """Return all that the store keeps, as a tuple of plain data. Raise PowerError."""
        self._refuse_when_down()
        return self._store.image()

    def evolve(self, parent, script):
        """Add a version and return its number. Raise PowerError, VersionError, StepError or RejectedError."""
        self._refuse_when_down()
        number = self._store.evolve(parent, script)
        self._note(("evolve", parent, script))
        return number

    def write(self, version, edits):
        """Write through a version. Raise PowerError, VersionError, EditError or RejectedError."""
        self._refuse_when_down()
        self._store.write(version, edits)
        self._note(("write", version, edits))

    def prune(self, version):
        """Prune a version. Raise PowerError or VersionError."""
        self._refuse_when_down()
        self._store.prune(version)
        self._note(("prune", version))

    def rebase(self, version, parent):
        """Hang a version under another one. Raise PowerError, VersionError, StepError or RejectedError."""
        self._refuse_when_down()
        self._store.rebase(version, parent)
        self._note(("rebase", version, parent))

    def begin_move(self, version):
        """Begin a move of the home to a version. Raise PowerError or VersionError."""
        self._refuse_when_down()
        self._store.begin_move(version)
        self._note(("begin_move", version))

    def advance(self, count):
        """Copy the next rows of the goal, and tell whether the move has ended. Raise PowerError or VersionError."""
        self._refuse_when_down()
        ended = self._store.advance(count)
        self._note(("advance", count))
        return ended

    def stop_move(self):
        """Drop the move that is going on. Raise PowerError or VersionError."""
        self._refuse_when_down()
        self._store.stop_move()
        self._note(("stop_move",))

    def checkpoint(self):
        """Write the image of the store to the other area, which becomes the current one. Raise PowerError."""
        self._refuse_when_down()
        other = 1 - self._area
        generation = self._generation + 1
        try:
            self._disk.wipe(other)
            self._append(other, ("image", generation, self._store.image()))
        except PowerError:
            self._is_down = True
            raise
        self._area = other
        self._generation = generation

    def generation(self):
        """Return the generation of the current area. Raise PowerError."""
        self._refuse_when_down()
        return self._generation

    def query(self, version, query):
        """Return the answer of the query on the state of a version. Raise PowerError, VersionError or QueryError."""
        self._refuse_when_down()
        state = self._store.show(version)
        return answer(self._store.tree.schema(version), state, query)


def redo(store, entry):
    """Do the call of a record once more."""
    name = entry[0]
    if name == "evolve":
        store.evolve(entry[1], entry[2])
    elif name == "write":
        store.write(entry[1], entry[2])
    elif name == "prune":
        store.prune(entry[1])
    elif name == "rebase":
        store.rebase(entry[1], entry[2])
    elif name == "begin_move":
        store.begin_move(entry[1])
    elif name == "advance":
        store.advance(entry[1])
    else:
        store.stop_move()


def recover(disk):
    """Return the engine of the store that was on the disk before a crash. Raise RecordError or PowerError."""
    journals = [(number, records_of(disk.contents(number))) for number in AREAS]
    # The generation is the second item of the first record.
    found = [(records[0][1], number, records) for number, records in journals if records != []]
    if found == []:
        raise RecordError(0)
    generation, area, entries = max(found, key=lambda line: line[0])
    store = stored_from(entries[0][2])
    for entry in entries[1:]:
        redo(store, entry)
    # A new engine writes to its disk, so it is made on another one.
    engine = Engine(Disk(), {})
    engine.take_store(disk, store, area, generation)
    engine.checkpoint()
    return engine
