"""Entries of a desk, read from the deeds that put them."""

from fewbreak.errors import BadDeed, BadName, HeldTwice, TooMany, UnknownName
from fewbreak.letters import is_name, read_letters
from fewbreak.machinetexts import read_machine
from fewbreak.programtexts import read_program
from fewbreak.ruletexts import names_in, read_rule

MOST_ENTRIES = 40
DROP = "drop"
LENGTHS = {"letters": 3, "machine": 4, "program": 5, "rule": 4, "drop": 2}


class Entry:
    """What a deed has put: a thing, and the ascending tuple of the names of the entries that it uses. Never changes."""

    def __init__(self, source, made, needs):
        self.source = source
        self.made = made
        self.needs = needs


def entry_kind(entry):
    """The kind of an entry: the first word of the deed that put it."""
    return entry.source[0]


def entry_name(entry):
    """The name of an entry."""
    return entry.source[1]


def is_deed(deed):
    """Whether a tuple of strings has the form of a deed."""
    if not isinstance(deed, tuple) or not all([isinstance(word, str) for word in deed]):
        return False
    return len(deed) > 0 and LENGTHS.get(deed[0], 0) == len(deed)


def check_deed(deed):
    """Raises BadDeed or BadName for a tuple that is no deed, or for the name in one."""
    if not is_deed(deed):
        raise BadDeed()
    if not is_name(deed[1]):
        raise BadName(deed[1])


def _letters_named(name, ahead):
    """The letters of the entry with a name among those ahead."""
    for entry in ahead:
        if entry_name(entry) == name and entry_kind(entry) == "letters":
            return entry.made
    raise UnknownName(name)


def _rule_of(letters, text, ahead):
    """The rule with a text, in which the names of the entries ahead are known."""
    things = [entry.made for entry in ahead if entry_kind(entry) in ("machine", "program")]
    known = [(entry_name(entry), entry.made) for entry in ahead if entry_kind(entry) == "rule"]
    return read_rule(letters, text, things_named=things, rules_named=known)


def _made(deed, ahead):
    """What a deed puts behind some entries."""
    kind, name, text = deed[0], deed[1], deed[-1]
    letters = [_letters_named(one, ahead) for one in deed[2:-1]]
    if kind == "letters":
        return read_letters(text)
    if kind == "machine":
        return read_machine(letters[0], text, machine_name=name)
    if kind == "program":
        return read_program(letters[0], letters[1], text, program_name=name)
    return _rule_of(letters[0], text, ahead)


def _needs(deed, ahead):
    """The ascending tuple of the names of the entries ahead that an entry with a deed uses."""
    names = list(deed[2:-1])
    if deed[0] == "rule":
        names.extend(names_in(deed[-1]))
    further = []
    for entry in ahead:
        if entry_name(entry) in names:
            further.extend(entry.needs)
    return tuple(sorted(set(names + further)))


def read_entry(deed, ahead):
    """The entry that a deed puts behind some entries."""
    made = _made(deed, ahead)
    return Entry(deed, made, _needs(deed, ahead))


def read_entries(deeds):
    """The things that a list of deeds puts as entries, in order."""
    for deed in deeds:
        if not is_deed(deed) or deed[0] == DROP:
            raise BadDeed()
    names = [deed[1] for deed in deeds]
    for name in names:
        if not is_name(name):
            raise BadName(name)
    for at, name in enumerate(names):
        if name in names[:at]:
            raise HeldTwice(name)
    if len(deeds) > MOST_ENTRIES:
        raise TooMany("entries", len(deeds))
    found = []
    for deed in deeds:
        found.append(read_entry(deed, found))
    return [entry.made for entry in found]
