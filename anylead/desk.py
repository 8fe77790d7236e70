"""A desk for games and promises about them."""

from anylead.asking import Answers, ask, names_item, with_names
from anylead.checks import is_index, is_whole
from anylead.deeds import body_of, deed_of, journal_of, plain_words
from anylead.errors import BadName, BadNumber, BadText, NoName, NothingToRedo, NothingToUndo, NotKept, TakenName
from anylead.games import game_of, game_text
from anylead.words import is_name, lines_of


class Stage:
    """What stands at a desk, or within an attempt or a trial: the newest state, those ahead of edits that can be
    undone, those that can be done again, and the deeds that have been done.

    A state is a pair (items, promises), an item a row (name, text, game). Stages never change."""

    def __init__(self, state, past, future, deeds):
        self.state = state
        self.past = past
        self.future = future
        self.deeds = deeds


class Desk:
    """Games under names, and promises about them that are kept outside of attempts and trials."""

    def __init__(self):
        self.answers = Answers({})
        self.stages = (Stage(((), ()), (), (), ()),)

    def put(self, name, text):
        """Puts the game of a text under a name."""
        if not is_name(name):
            raise BadName(name)
        _put(self, name, text, deed_of(["put", name], body_of(text) if isinstance(text, str) else ""))

    def edit(self, name, line, text):
        """Replaces a line of the text of a game by the lines of another text."""
        lines = lines_of(_item(self, name)[1])
        if not is_whole(line) or not is_index(line - 1, len(lines) + 1):
            raise BadNumber("line", line)
        if not isinstance(text, str):
            raise BadText(0, 0)
        lines = lines[:line - 1] + lines_of(text) + lines[line:]
        deed = deed_of(["edit", name, str(line)], body_of(text))
        _put(self, name, "".join([each + "\n" for each in lines]), deed)

    def rename(self, name, new):
        """Gives an item another name."""
        _item(self, name)
        if not is_name(new):
            raise BadName(new)
        if new in self.names():
            raise TakenName(new)
        items, promises = _state(self)
        items = tuple([(new,) + item[1:] if item[0] == name else item for item in items])
        promises = tuple([with_names(promise, name, new) for promise in promises])
        _edit(self, (items, promises), f"rename {name} {new}")

    def drop(self, name):
        """Takes an item away, and all promises about it."""
        _item(self, name)
        items, promises = _state(self)
        items = tuple([item for item in items if item[0] != name])
        promises = tuple([promise for promise in promises if not names_item(promise, name)])
        _edit(self, (items, promises), f"drop {name}")

    def keep(self, promise):
        """Adds a promise that is kept."""
        items, promises = _state(self)
        kept, witness = ask(self.answers, items, promise)
        plain = plain_words(promise)
        if not kept:
            raise NotKept(plain, witness)
        if plain not in promises:
            promises = promises + (plain,)
        _edit(self, (items, promises), deed_of(["keep"], plain))

    def release(self, promise):
        """Takes a promise away."""
        items, promises = _state(self)
        if not isinstance(promise, str) or plain_words(promise) not in promises:
            raise NoName(promise)
        plain = plain_words(promise)
        _edit(self, (items, tuple([each for each in promises if each != plain])), deed_of(["release"], plain))

    def undo(self):
        """Takes back the last edit."""
        stage = self.stages[-1]
        if not stage.past:
            raise NothingToUndo()
        future = stage.future + (stage.state,)
        self.stages = self.stages[:-1] + (Stage(stage.past[-1], stage.past[:-1], future, stage.deeds + ("undo",)),)

    def redo(self):
        """Does again what was taken back last."""
        stage = self.stages[-1]
        if not stage.future:
            raise NothingToRedo()
        past = stage.past + (stage.state,)
        self.stages = self.stages[:-1] + (Stage(stage.future[-1], past, stage.future[:-1], stage.deeds + ("redo",)),)

    def attempt(self, action):
        """Calls the function with this desk; all that it does is one edit, or nothing."""
        stages = self.stages
        done = None
        try:
            begin_stage(self)
            result = action(self)
            close_attempt(self)
            done = True
        finally:
            if done is None:
                self.stages = stages
        return result

    def trial(self, action):
        """Calls the function with this desk, which is then again as it was ahead."""
        stages = self.stages
        try:
            begin_stage(self)
            return action(self)
        finally:
            self.stages = stages

    def names(self):
        """The names of all items, in order."""
        return tuple([item[0] for item in _state(self)[0]])

    def promises(self):
        """All promises, in order."""
        return _state(self)[1]

    def text(self, name):
        """The text of an item's game."""
        return _item(self, name)[1]

    def game(self, name):
        """The game of an item."""
        return _item(self, name)[2]

    def winners(self, name, standing):
        """All counts at which FIRST can force the wish from a standing of an item."""
        return self.answers.counts_for(_item(self, name), standing)

    def asked(self, promise):
        """Whether a promise is kept now, and its witness or None."""
        return ask(self.answers, _state(self)[0], promise)

    def broken(self):
        """The pairs (promise, witness) of all promises that are not kept."""
        pairs = []
        for promise in self.promises():
            kept, witness = self.asked(promise)
            if not kept:
                pairs.append((promise, witness))
        return tuple(pairs)

    def journal(self):
        """The text that tells what has been done outside of trials."""
        return journal_of(self.stages[0].deeds)

    def settled(self):
        """A new Desk with the same items and promises, at which nothing else was ever done."""
        desk = Desk()
        desk.answers = Answers(self.answers.known)
        for name in self.names():
            desk.put(name, self.text(name))
        for promise in self.promises():
            desk.keep(promise)
        return desk


def _state(desk):
    return desk.stages[-1].state


def _item(desk, name):
    """The item with this name."""
    for item in _state(desk)[0]:
        if isinstance(name, str) and item[0] == name:
            return item
    raise NoName(name)


def _put(desk, name, text, deed):
    """Puts the game of a text under a name."""
    game = game_of(text)
    put = (name, game_text(game), game)
    items, promises = _state(desk)
    if name in desk.names():
        items = tuple([put if item[0] == name else item for item in items])
    else:
        items = items + (put,)
    _edit(desk, (items, promises), deed)


def _edit(desk, state, deed):
    """Makes an edit that leads to a state."""
    _add_edit(desk, desk.stages, state, (deed,))


def _add_edit(desk, stages, state, deeds):
    """Adds an edit to the last one of some stages, which are those of the desk then."""
    last = stages[-1]
    if len(stages) == 1:
        _need_kept(desk, state)
    desk.stages = stages[:-1] + (Stage(state, last.past + (last.state,), (), last.deeds + deeds),)


def _need_kept(desk, state):
    items, promises = state
    for promise in promises:
        kept, witness = ask(desk.answers, items, promise)
        if not kept:
            raise NotKept(promise, witness)


def begin_stage(desk):
    """Begins an attempt or a trial."""
    desk.stages = desk.stages + (Stage(_state(desk), (), (), ()),)


def close_attempt(desk):
    """Ends the last attempt, which is an edit of what stands around it."""
    stage = desk.stages[-1]
    _add_edit(desk, desk.stages[:-1], stage.state, ("begin",) + stage.deeds + ("close",))
