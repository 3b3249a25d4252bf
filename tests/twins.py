"""Random runs of stores that keep one state, beside a Model that is given the same calls."""

from lenstree.errors import StoreError
from tests.homes import below
from tests.store_runs import any_call

FIRST_CODES = ("missing", "last", "root", "below", "same")


def wild_call(source, store):
    """Return any call of the store, now and then with a version that is pruned or unknown."""
    call = any_call(source, store)
    if source.randrange(8) == 0:
        number = source.choice(range(-1, store.tree.next_number() + 2))
        call = (call[0], number) + call[2:]
    return call


def outcome(store, call):
    """Do a call; return what it returns, or the name and the fields of the error of the program that it raises."""
    try:
        return ("done", getattr(store, call[0])(*call[1:]))
    except StoreError as error:
        return (type(error).__name__, vars(error))


def expected(store, call, seen):
    """Return what a call must come to at a store, when it comes to `seen` at a model with the same versions."""
    if call[0] not in ("prune", "rebase") or (seen[0] == "VersionError" and seen[1]["code"] in FIRST_CODES):
        return seen
    move = store.move_view()
    touched = [call[1]] if call[0] == "prune" else below(store.tree, call[1])
    if store.home() in touched:
        return ("VersionError", {"code": "home"})
    if move is not None and (call[0] == "rebase" or move[0] == call[1]):
        return ("VersionError", {"code": "moving"})
    return seen


def is_in_the_way(seen):
    """Tell whether an outcome is that the home or a move stands in the way of a call."""
    return seen[0] == "VersionError" and seen[1]["code"] in ("home", "moving")


def pairs_of(state):
    """Return the list of the pairs (table, key) of a state, ascending."""
    return sorted([(table, key) for table in state for key in state[table]])


def copied(state, mark):
    """Return what the copy has by point 47, when this is the state of the goal."""
    return {table: {key: rest for key, rest in state[table].items() if mark is not None and (table, key) <= mark}
            for table in state}


def is_in_step(test, store):
    """See that what the store keeps is what points 45 and 47 say."""
    test.assertEqual(store.kept(), store.show(store.home()))
    move = store.move_view()
    if move is not None:
        goal, mark, copy_of_goal = move
        test.assertEqual(copy_of_goal, copied(store.show(goal), mark))


def advances(test, store, count):
    """Advance a move that is going on, and see all that comes of it by point 46. Return what advance returns."""
    goal, mark, old_copy = store.move_view()
    home = store.home()
    shown = [(number, store.show(number)) for number in store.tree.numbers()]
    left = [pair for pair in pairs_of(store.show(goal)) if mark is None or pair > mark]
    ended = store.advance(count)
    test.assertIs(ended, len(left) < count)
    if ended:
        test.assertEqual((store.home(), store.move_view()), (goal, None))
        test.assertEqual(store.kept(), store.show(goal))
    else:
        test.assertEqual((store.home(), store.move_view()[:2]), (home, (goal, left[count - 1])))
        new_copy = store.move_view()[2]
        test.assertEqual(set(pairs_of(new_copy)) - set(pairs_of(old_copy)), set(left[:count]))
    test.assertEqual([(number, store.show(number)) for number in store.tree.numbers()], shown)
    is_in_step(test, store)
    return ended
