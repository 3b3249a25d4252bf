"""Stores whose home is here or there, so that the tests of any store run with each home."""

from lenstree.stored import Stored
from tests.store_case import StoreCase
from tests.store_tests import EvolveTests, NewTests, WriteTests
from tests.store_tree_tests import PruneTests, RebaseTests


def go_home(store, version, count=7):
    """Move the home of a store to a version."""
    if store.home() != version:
        store.begin_move(version)
        while not store.advance(count):
            pass


def below(tree, version):
    """Return the list of the nodes that are the version or below it."""
    found = [version] if version in tree.nodes() else []
    for node in found:
        found += tree.children(node)
    return found


class Shy:
    """The home leaves a version that is pruned or rebased, and no move stands in the way."""

    def leave(self, versions):
        goals = [number for number in self.tree.numbers() if number not in versions]
        if self.home() in versions and goals:
            self.stop()
            go_home(self, goals[0])

    def stop(self):
        if self.move_view() is not None:
            self.stop_move()

    def prune(self, version):
        if self.move_view() is not None and self.move_view()[0] == version:
            self.stop_move()
        self.leave([version])
        return super().prune(version)

    def rebase(self, version, parent):
        self.stop()
        self.leave(below(self.tree, version))
        return super().rebase(version, parent)


class Newest(Shy):
    """The home is the version that was made last, as long as it can be."""

    def evolve(self, parent, script):
        number = super().evolve(parent, script)
        go_home(self, number, 1)
        return number


class Roaming(Shy):
    """The home goes on to the next live version ahead of each write and each new version."""

    def roam(self):
        later = [number for number in self.tree.numbers() if number > self.home()]
        go_home(self, (later + self.tree.numbers())[0], 2)

    def evolve(self, parent, script):
        self.roam()
        return super().evolve(parent, script)

    def write(self, version, edits):
        self.roam()
        return super().write(version, edits)


class Moving(Shy):
    """A move is going on nearly always; it goes ahead by one row at each call."""

    def drift(self):
        others = [number for number in self.tree.numbers() if number != self.home()]
        if self.move_view() is not None:
            self.advance(1)
        elif others:
            self.begin_move(others[-1])
            self.advance(1)

    def evolve(self, parent, script):
        self.drift()
        return super().evolve(parent, script)

    def write(self, version, edits):
        self.drift()
        return super().write(version, edits)


class ShyStored(Shy, Stored):
    pass


class NewestStored(Newest, Stored):
    pass


class RoamingStored(Roaming, Stored):
    pass


class MovingStored(Moving, Stored):
    pass


def store_cases(make, word):
    """Return the classes with the tests of any store, by their names; `make` makes a store of a schema."""
    found = {}
    for tests in (NewTests, EvolveTests, WriteTests, PruneTests, RebaseTests):
        name = word + tests.__name__
        found[name] = type(name, (tests, StoreCase), {"made": lambda self, schema: make(schema)})
    return found
