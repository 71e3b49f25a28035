"""A desk for functions, told means and promises about them, with edits that can be undone, attempts and trials."""

from toldmeans.errors import BadName, NoName, NotKept, NothingToRedo, NothingToUndo, TakenName
from toldmeans.items import Item, item_named, items_of, line_of, put_in
from toldmeans.promises import asked_of, promise_of, renamed
from toldmeans.words import is_name


class State:
    """What a desk is at one time: its items and promises, pairs of those that can be undone and done again, and
    whether it is within an attempt or a trial."""

    def __init__(self, things, made, past, future, within):
        self.things = things
        self.made = made
        self.past = past
        self.future = future
        self.within = within


class Saved:
    """The state ahead of a trial, and what was saved ahead of that."""

    def __init__(self, state, outer):
        self.state = state
        self.outer = outer


class Desk:
    """Functions and told means under names, and promises about them."""

    def __init__(self, text=""):
        self.state = State(tuple(items_of(text)), (), (), (), False)
        self.saved = None

    def __enter__(self):
        self.saved = Saved(self.state, self.saved)
        self.state = entered(self.state)
        return self

    def __exit__(self, kind, value, trace):
        saved = self.saved
        self.state = saved.state
        self.saved = saved.outer

    def put(self, text):
        """Puts the items of a text in the places of those with their names, or behind the last one."""
        self.state = edited(self.state, put_in(self.state.things, items_of(text)), self.state.made)

    def drop(self, name):
        """Takes an item away, and all promises that have its name."""
        item = named(self.state, name)
        things = tuple([one for one in self.state.things if one.name != item.name])
        made = tuple([promise for promise in self.state.made if promise_of(promise).name != item.name])
        self.state = edited(self.state, things, made)

    def rename(self, name, new):
        """Gives an item another name, in promises too."""
        if not is_name(new):
            raise BadName(new)
        item = named(self.state, name)
        if item_named(self.state.things, new) is not None:
            raise TakenName(new)
        things = tuple([Item(new, one.thing) if one.name == item.name else one for one in self.state.things])
        made = tuple([renamed(promise, item.name, new) for promise in self.state.made])
        self.state = edited(self.state, things, made)

    def keep(self, promise):
        """Makes a promise, unless it is made already."""
        right, witness = asked_of(self.state.things, promise)
        if not right and not self.state.within:
            raise NotKept(promise, witness)
        made = self.state.made
        # All promises made before were kept behind the edit before this one, so they still are.
        self.state = changed(self.state, self.state.things, made if promise in made else made + (promise,))

    def release(self, promise):
        """Takes a promise back."""
        if not isinstance(promise, str) or promise not in self.state.made:
            raise NoName(promise)
        made = tuple([one for one in self.state.made if one != promise])
        self.state = changed(self.state, self.state.things, made)

    def attempt(self, action):
        """Calls a function with the desk, all whose edits together are one; tells what it returns."""
        before = self.state
        self.state = entered(before)
        done = None
        try:
            result = action(self)
            done = edited(before, self.state.things, self.state.made)
        finally:
            if done is None:
                self.state = before
        self.state = done
        return result

    def trial(self, action):
        """Calls a function with the desk, and takes back all that it did; tells what it returns."""
        before = self.state
        self.state = entered(before)
        try:
            return action(self)
        finally:
            self.state = before

    def undo(self):
        """Takes back the last edit that stands."""
        state = self.state
        if len(state.past) == 0:
            raise NothingToUndo()
        things, made = state.past[-1]
        future = state.future + ((state.things, state.made),)
        self.state = State(things, made, state.past[:-1], future, state.within)

    def redo(self):
        """Does again the edit that was taken back last."""
        state = self.state
        if len(state.future) == 0:
            raise NothingToRedo()
        things, made = state.future[-1]
        past = state.past + ((state.things, state.made),)
        self.state = State(things, made, past, state.future[:-1], state.within)

    def lines(self):
        """The text of all items."""
        return "".join([line_of(item) for item in self.state.things])

    def names(self):
        """The names of all items, in order."""
        return tuple([item.name for item in self.state.things])

    def promises(self):
        """All promises, in order."""
        return self.state.made

    def get(self, name):
        """The Broken or Told with a name."""
        return named(self.state, name).thing

    def kept(self, promise):
        """Whether a promise is kept now, and the witness, None if it is."""
        return asked_of(self.state.things, promise)

    def broken(self):
        """The pairs of each promise that is not kept and of its witness, in order."""
        found = []
        for promise in self.state.made:
            right, witness = asked_of(self.state.things, promise)
            if not right:
                found.append((promise, witness))
        return tuple(found)


def entered(state):
    """The state at the beginning of an attempt or a trial, which knows its own edits alone."""
    return State(state.things, state.made, (), (), True)


def changed(state, things, made):
    """The state behind an edit."""
    return State(things, made, state.past + ((state.things, state.made),), (), state.within)


def edited(state, things, made):
    """The state behind an edit; outside of attempts and trials all promises are kept in it."""
    if not state.within:
        for promise in made:
            right, witness = asked_of(things, promise)
            if not right:
                raise NotKept(promise, witness)
    return changed(state, things, made)


def named(state, name):
    """The item with a name."""
    item = item_named(state.things, name)
    if item is None:
        raise NoName(name)
    return item
