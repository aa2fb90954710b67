"""The desk: named things with history."""

from fewbreak.entries import DROP, check_deed, entry_name, read_entry
from fewbreak.errors import InDraft, NoDraft, NothingLeft, TooMany, UnknownName


def _behind_deed(entries, deed):
    """The entries that a deed makes of some entries."""
    check_deed(deed)
    name = deed[1]
    names = [entry_name(entry) for entry in entries]
    at = names.index(name) if name in names else len(names)
    found = entries[:at]
    if deed[0] == DROP:
        if at == len(names):
            raise UnknownName(name)
    else:
        if at == Desk.MOST:
            raise TooMany("entries", at + 1)
        found.append(read_entry(deed, entries[:at]))
    for entry in entries[at + 1:]:
        # what does not use the changed entry would be read as it was
        found.append(read_entry(entry.source, list(found)) if name in entry.needs else entry)
    return found


class Desk:
    """Entries in an order, and the steps that put them there.

    Each step that stands is held with the entries ahead of it, each undone one with the entries behind it. In a draft
    these are the steps of the draft; the entries and steps ahead of it are held apart.
    """

    MOST = 40

    def __init__(self):
        self._entries = []
        self._done = []
        self._undone = []
        self._ahead = None

    @property
    def in_draft(self):
        """Whether a draft has begun and not ended."""
        return self._ahead is not None

    def do(self, deed):
        """Does a deed."""
        self.do_all([deed])

    def do_all(self, deeds):
        """Runs all deeds of a list, or none, as one step."""
        entries = self._entries
        for deed in deeds:
            entries = _behind_deed(entries, deed)
        if deeds:
            self._done.append((tuple(deeds), self._entries))
            self._undone = []
            self._entries = entries

    def undo(self):
        """Takes the last step back."""
        if not self._done:
            raise NothingLeft()
        step, ahead = self._done.pop()
        self._undone.append((step, self._entries))
        self._entries = ahead

    def redo(self):
        """Does the last undone step again."""
        if not self._undone:
            raise NothingLeft()
        step, behind = self._undone.pop()
        self._done.append((step, self._entries))
        self._entries = behind

    def begin(self):
        """Begins a draft."""
        if self._ahead is not None:
            raise InDraft()
        self._ahead = (self._entries, self._done, self._undone)
        self._done = []
        self._undone = []

    def throw(self):
        """Ends the draft; everything is as it was when it began."""
        if self._ahead is None:
            raise NoDraft()
        self._entries, self._done, self._undone = self._ahead
        self._ahead = None

    def keep(self):
        """Ends the draft, whose deeds become one step."""
        deeds = [deed for step, _ in self._done for deed in step]
        entries = self._entries
        self.throw()
        if deeds:
            self._done.append((tuple(deeds), self._entries))
            self._undone = []
            self._entries = entries

    def entry_names(self):
        """The list of the names of the entries, in order."""
        return [entry_name(entry) for entry in self._entries]

    def _entry(self, name):
        """The entry with a name."""
        for entry in self._entries:
            if entry_name(entry) == name:
                return entry
        raise UnknownName(name)

    def thing(self, name):
        """The letters, machine, program or rule of an entry."""
        return self._entry(name).made

    def deed(self, name):
        """The deed that put an entry."""
        return self._entry(name).source

    def used(self, name):
        """The ascending list of the names of the entries that an entry uses."""
        return list(self._entry(name).needs)

    def steps(self):
        """The list of the steps that stand, in order."""
        ahead = [] if self._ahead is None else self._ahead[1]
        return [step for step, _ in ahead + self._done]

    @staticmethod
    def played(steps):
        """A new desk on which the steps of a list were run one behind another."""
        found = Desk()
        for step in steps:
            found.do_all(step)
        return found

    def __contains__(self, text):
        return any([entry_name(entry) == text for entry in self._entries])

    def __len__(self):
        return len(self._entries)

    def __bool__(self):
        return True
