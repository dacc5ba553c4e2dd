"""A desk for programs, and promises about them."""

from sevenpoints.answers import least_pieces
from sevenpoints.changes import ALL_CHANGES, changed_by
from sevenpoints.deedlines import edit_deed, journal_text, put_deed
from sevenpoints.errors import BadName, BadNumber, BadText, NoName, TakenName
from sevenpoints.keeping import Keeping, State
from sevenpoints.programs import is_name
from sevenpoints.promises import Item, is_about, one_spaced, with_item
from sevenpoints.rows import is_between
from sevenpoints.texts import program_of, program_text
from sevenpoints.words import lines_in


def item_of(name, program):
    """The Item of a program."""
    return Item(name, program, program_text(program))


def with_line(text, line, told):
    """A text with the lines of another one in the place of the line with a number, or behind all."""
    lines = lines_in(text)
    whole = lines[:line - 1] + lines_in(told) + lines[line:]
    return "".join([one + "\n" for one in whole])


class Desk:
    """Programs under names, in an order, and promises about them."""

    def __init__(self):
        self.keeping = Keeping()

    def item(self, name):
        """The Item with a name."""
        if isinstance(name, str):
            for item in self.keeping.state.shelf:
                if item.name == name:
                    return item
        raise NoName(name)

    def set_item(self, name, item, deed):
        """Make an edit: an item takes the place of that with a name, or comes behind the last one."""
        state = self.keeping.state
        if name in self.names():
            shelf = tuple([item if one.name == name else one for one in state.shelf])
        else:
            shelf = state.shelf + (item,)
        self.keeping.make(State(shelf, state.promised), [deed])

    def set_promises(self, promised, deed):
        """Make an edit: other promises take the place of all."""
        self.keeping.make(State(self.keeping.state.shelf, tuple(promised)), [deed])

    def put(self, name, text):
        """Put the program of a text under a name."""
        if not is_name(name):
            raise BadName(name)
        program = program_of(text)
        self.set_item(name, item_of(name, program), put_deed(name, text))

    def edit(self, name, line, text):
        """Put the lines of a text in the place of a line of an item's text."""
        item = self.item(name)
        if not is_between(line, 1, len(lines_in(item.wording)) + 1):
            raise BadNumber("line", line)
        if not isinstance(text, str):
            raise BadText(0, 0)
        program = program_of(with_line(item.wording, line, text))
        self.set_item(name, item_of(name, program), edit_deed(name, line, text))

    def change(self, name, word):
        """Change an item by one of the changes that keep what it means."""
        item = self.item(name)
        if not isinstance(word, str) or word not in ALL_CHANGES + ("settled",):
            raise BadName(word)
        self.set_item(name, item_of(name, changed_by(item.held, word)), f"change {name} {word}")

    def rename(self, name, new):
        """Give an item a new name, in the promises, too."""
        item = self.item(name)
        if not is_name(new):
            raise BadName(new)
        if new in self.names():
            raise TakenName(new)
        state = self.keeping.state
        shelf = [Item(new, item.held, item.wording) if one.name == name else one for one in state.shelf]
        promised = [with_item(wording, name, new) for wording in state.promised]
        self.keeping.make(State(tuple(shelf), tuple(promised)), [f"rename {name} {new}"])

    def drop(self, name):
        """Take an item away, and the promises about it."""
        self.item(name)
        state = self.keeping.state
        shelf = [one for one in state.shelf if one.name != name]
        promised = [wording for wording in state.promised if not is_about(wording, name)]
        self.keeping.make(State(tuple(shelf), tuple(promised)), [f"drop {name}"])

    def keep(self, promise):
        """Keep a promise from now on."""
        promised = self.promises()
        wording = self.keeping.check(self.keeping.state, promise)
        self.set_promises(promised if wording in promised else promised + (wording,), "keep : " + wording)

    def release(self, promise):
        """Keep a promise no longer."""
        wording = one_spaced(promise) if isinstance(promise, str) else None
        if wording not in self.promises():
            raise NoName(promise)
        self.set_promises([one for one in self.promises() if one != wording], "release : " + wording)

    def undo(self):
        """Take back the last edit that has not been taken back."""
        self.keeping.undo()

    def redo(self):
        """Do again what was taken back last."""
        self.keeping.redo()

    def attempt(self, action):
        """Call a function with this desk; all that it does is one edit, or nothing if an error is raised."""
        keeping = self.keeping

        def tried(desk):
            """Do it, and tell what it has led to, too."""
            result = action(desk)
            return result, keeping.state, keeping.attempted()

        result, state, deeds = self.trial(tried)
        keeping.make(state, deeds)
        return result

    def trial(self, action):
        """Call a function with this desk; all that it does is taken back."""
        keeping = self.keeping
        levels = keeping.levels
        state = keeping.state
        keeping.begin()
        try:
            return action(self)
        finally:
            keeping.levels = levels
            keeping.state = state

    def names(self):
        """The names of the items, in order."""
        return tuple([item.name for item in self.keeping.state.shelf])

    def promises(self):
        """The promises, in order."""
        return self.keeping.state.promised

    def program(self, name):
        """The Program of an item."""
        return self.item(name).held

    def text(self, name):
        """The text of an item."""
        return self.item(name).wording

    def least(self, name, registers):
        """The least number of pieces of a placing of an item."""
        return least_pieces(self.item(name).held, registers)[0]

    def asked(self, promise):
        """Whether a promise is kept now, and its witness if it is not."""
        _, kept, witness = self.keeping.answer(self.keeping.state, promise)
        return (kept, witness)

    def broken(self):
        """The promises that are not kept, with their witnesses."""
        told = [(wording, self.asked(wording)) for wording in self.promises()]
        return tuple([(wording, answer[1]) for wording, answer in told if not answer[0]])

    def journal(self):
        """The text that tells what has been done."""
        return journal_text(self.keeping.levels[0].deeds)

    def copied(self):
        """A new Desk with the same items and promises, which has done nothing but put and keep them."""
        desk = Desk()
        for item in self.keeping.state.shelf:
            desk.put(item.name, item.wording)
        for wording in self.promises():
            desk.keep(wording)
        return desk
