"""Workshops: spoken circuits, their boards, and promises that are kept."""

from sparkboard.boards import board_for, shown
from sparkboard.circuits import Alike, Circuit, alike
from sparkboard.errors import BadName, BadText, NoName, NothingToRedo, NothingToUndo, NotKept, TakenName
from sparkboard.texts import Reader, Spoken, is_name, spoken_of, text_of


def _words_of(text):
    """The words of a promise: those of "a same as b" or "a always n"; BadText for any other value."""
    if not isinstance(text, str):
        raise BadText(0)
    reader = Reader(text)
    reader.spaces()
    words = [reader.whole_name()]
    reader.gap()
    words.append(reader.word(("same", "always")))
    reader.gap()
    if words[-1] == "same":
        words.append(reader.word(("as",)))
        reader.gap()
    words.append(reader.whole_name())
    reader.end()
    return tuple(words)


def _circuits_in(words):
    """At which places of a promise's words names of circuits stand."""
    return (0, 3) if words[1] == "same" else (0,)


def _always_one(circuit, signal):
    """What tells whether a signal is 1 in every cycle, and if not, the rows with which it is 0 in the last one."""
    watched = Circuit(circuit.inputs, circuit.resets, circuit.gates, circuit.nexts, (signal,))
    return alike(watched, Circuit(circuit.inputs, (), (("one",),), (), (circuit.inputs,)))


class Stock:
    """What a workshop keeps at a time: circuits and the words of promises. It never changes."""

    def __init__(self, circuits, promised):
        self.circuits = circuits
        self.promised = promised

    def mark(self):
        """What tells a stock from another one."""
        return tuple([text_of(spoken) for spoken in self.circuits]), self.promised

    def named(self, name):
        """The circuit of a name; NoName for any value that is none."""
        if isinstance(name, str):
            for spoken in self.circuits:
                if spoken.name == name:
                    return spoken
        raise NoName(name)

    def verdict(self, words):
        """Whether a promise is kept, with its witness; NoName and Unlike if it can't be asked."""
        first = self.named(words[0])
        if words[1] == "same":
            told = alike(first.circuit, self.named(words[3]).circuit)
        elif words[2] in first.names:
            told = _always_one(first.circuit, first.names.index(words[2]))
        else:
            raise NoName(words[2])
        if isinstance(told, Alike):
            return True, None
        # An "always" is told by the rows alone: callers know no second circuit that a Parting would speak of.
        witness = told if words[1] == "same" else told.rows
        return False, witness

    def look(self):
        """NotKept for the first promise that is not kept; ahead of this what keeps it from being asked."""
        for words in self.promised:
            is_kept, witness = self.verdict(words)
            if not is_kept:
                raise NotKept(" ".join(words), witness)

    def with_circuits(self, told):
        """The stock with circuits, each in the place of the one of its name, or behind all others."""
        taken = {spoken.name: spoken for spoken in told}
        circuits = [taken.get(spoken.name, spoken) for spoken in self.circuits]
        names = [spoken.name for spoken in self.circuits]
        circuits.extend([spoken for spoken in told if spoken.name not in names])
        return Stock(tuple(circuits), self.promised)

    def without(self, name):
        """The stock without a circuit and the promises that name it."""
        gone = self.named(name)
        circuits = [spoken for spoken in self.circuits if spoken.name != gone.name]
        promises = [words for words in self.promised if name not in [words[at] for at in _circuits_in(words)]]
        return Stock(tuple(circuits), tuple(promises))

    def renamed(self, name, new):
        """The stock with another name for a circuit, in its place and in promises."""
        before = self.named(name)
        if new in [spoken.name for spoken in self.circuits]:
            raise TakenName(new)
        after = Spoken(new, before.names, before.circuit)
        circuits = [after if spoken.name == before.name else spoken for spoken in self.circuits]
        promises = []
        for words in self.promised:
            places = [at for at in _circuits_in(words) if words[at] == before.name]
            promises.append(tuple([new if at in places else word for at, word in enumerate(words)]))
        return Stock(tuple(circuits), tuple(promises))


class Workshop:
    """Circuits and promises about them; each edit keeps all promises and can be undone."""

    def __init__(self, text=""):
        self._now = Stock(spoken_of(text), ())
        self._done = ()
        self._undone = ()
        self._is_outermost = True

    def _note(self, before):
        """Makes what has changed since a stock an edit; nothing if it is the same again."""
        if self._now.mark() == before.mark():
            self._now = before
        else:
            self._done = self._done + (before,)
            self._undone = ()

    def _change(self, stock):
        """Makes an edit that leads to a stock, if that keeps all promises."""
        if self._is_outermost:
            stock.look()
        before = self._now
        self._now = stock
        self._note(before)

    def put(self, text):
        """Puts in the circuits of a text."""
        self._change(self._now.with_circuits(spoken_of(text)))

    def drop(self, name):
        """Takes out a circuit, and all promises that name it."""
        self._change(self._now.without(name))

    def rename(self, name, new):
        """Gives a circuit another name."""
        if not is_name(new):
            raise BadName(new)
        self._change(self._now.renamed(name, new))

    def keep(self, text):
        """Makes a promise."""
        words = _words_of(text)
        self._now.verdict(words)
        promises = self._now.promised
        if words not in promises:
            promises = promises + (words,)
        self._change(Stock(self._now.circuits, promises))

    def release(self, text):
        """Gives up a promise."""
        words = tuple([word for word in text.split(" ") if word != ""]) if isinstance(text, str) else ()
        if words not in self._now.promised:
            raise NoName(text)
        left = [other for other in self._now.promised if other != words]
        before = self._now
        self._now = Stock(before.circuits, tuple(left))
        self._note(before)

    def text(self):
        """The texts of all circuits."""
        return "".join([text_of(spoken) for spoken in self._now.circuits])

    def names(self):
        """The names of all circuits."""
        return tuple([spoken.name for spoken in self._now.circuits])

    def promises(self):
        """The texts of all promises."""
        return tuple([" ".join(words) for words in self._now.promised])

    def get(self, name):
        """The Spoken of a name."""
        return self._now.named(name)

    def kept(self, text):
        """Whether a promise, made or not, is kept, and what shows that it is not."""
        return self._now.verdict(_words_of(text))

    def board(self, name):
        """The Board of a circuit."""
        return board_for(self._now.named(name).circuit)

    def show(self, name, rows):
        """The outputs of a circuit in each cycle, read off from its board."""
        return shown(self.board(name), rows)

    def undo(self):
        """Takes back the last edit."""
        if len(self._done) == 0:
            raise NothingToUndo()
        self._undone = self._undone + (self._now,)
        self._now = self._done[-1]
        self._done = self._done[:-1]

    def redo(self):
        """Makes the edit again that was taken back last."""
        if len(self._undone) == 0:
            raise NothingToRedo()
        self._done = self._done + (self._now,)
        self._now = self._undone[-1]
        self._undone = self._undone[:-1]

    def _within(self, action, stays):
        """Calls an action with edits of its own; what it changes stays if it may and no error is raised."""
        before = self._now
        behind = before
        done = self._done
        undone = self._undone
        is_outermost = self._is_outermost
        self._done = ()
        self._undone = ()
        self._is_outermost = False
        try:
            told = action(self)
            if is_outermost:
                self._now.look()
            if stays:
                behind = self._now
        finally:
            self._now = behind
            self._done = done
            self._undone = undone
            self._is_outermost = is_outermost
        self._note(before)
        return told

    def attempt(self, action):
        """Calls a function with the workshop; all its edits are one."""
        return self._within(action, True)

    def trial(self, action):
        """Calls a function with the workshop, which is behind it as it was."""
        return self._within(action, False)
