"""Texts of rules.

A text is first read as a tree of nodes, whatever its names mean, and then the rules are made from the nodes. A node is
a tuple of the kind of a rule, or NAMED for a known rule, of what stands ahead of the arguments, and of the nodes of
these.
"""

from fewbreak.besides import beside
from fewbreak.errors import BadText, UnknownName, UnlikeParts
from fewbreak.letters import SIGNS, is_name
from fewbreak.machines import Machine
from fewbreak.programs import Program
from fewbreak.rules import all_rule, bar, both, carried, check_letters, each, either, few, gives, led, none_rule, same
from fewbreak.runs import EMPTY_RUN

MOST_BRACKETS = 40
DIGITS = "0123456789"
NAMED = "named"


def _names_of(text):
    """The tuple of the names in a list of names with commas between, which may be empty."""
    if text == "":
        return ()
    names = tuple(text.split(","))
    if not all([is_name(name) for name in names]):
        raise BadText(0, "form")
    return names


def _only_name(text):
    """A text that must be a name."""
    if not is_name(text):
        raise BadText(0, "form")
    return text


def _only_digit(text):
    """The number that a text of one digit tells."""
    if len(text) != 1 or text not in DIGITS:
        raise BadText(0, "form")
    return int(text)


def _is_run_text(text):
    """Whether a text has the form of that of a run, over any letters."""
    if text == EMPTY_RUN:
        return True
    return all([word != "" and all([sign in SIGNS for sign in word]) for word in text.split(".")])


def _runs_of_texts(text):
    """The tuple of the runs whose texts stand in a text with one space between, whatever the letters are."""
    if text == "":
        return ()
    words = text.split(" ")
    if not all([_is_run_text(word) for word in words]):
        raise BadText(0, "form")
    return tuple([() if word == EMPTY_RUN else tuple(word.split(".")) for word in words])


def _two_lists(text):
    """The pair of the lists of names ahead of a semicolon and behind it."""
    if text.count(";") != 1:
        raise BadText(0, "form")
    before, after = text.split(";")
    return _names_of(before), _names_of(after)


def _items_of(text):
    """The texts between the commas that stand in no brackets within a text; none for the empty text."""
    if text == "":
        return []
    found = []
    start = 0
    deep = 0
    for at, sign in enumerate(text):
        if sign == "(":
            deep += 1
        elif sign == ")":
            deep -= 1
        if deep < 0:
            raise BadText(0, "form")
        if sign == "," and deep == 0:
            found.append(text[start:at])
            start = at + 1
    found.append(text[start:])
    return found


FRONTS = {
    "each": _only_name, "bar": _only_name, "same": _names_of, "led": _two_lists, "few": _only_digit,
    "carried": _only_name, "beside": _runs_of_texts,
}
WITHOUT_ARGUMENTS = ("each", "bar", "same", "led")


def _with_front(kind, inside):
    """The node of a rule that has something ahead of its arguments, with what stands in its brackets."""
    front = inside
    nodes = ()
    if kind not in WITHOUT_ARGUMENTS:
        # what stands ahead has no comma of its own
        front, comma, rest = inside.partition(",")
        if comma == "":
            raise BadText(0, "form")
        nodes = (_node(rest),)
    read = FRONTS[kind]
    return kind, read(front), nodes


def _node(text):
    """The node of the text of a rule."""
    kind, bracket, rest = text.partition("(")
    if bracket == "":
        if kind in ("all", "none"):
            return kind, None, ()
        return NAMED, _only_name(kind), ()
    if not rest.endswith(")"):
        raise BadText(0, "form")
    inside = rest[:-1]
    if kind in FRONTS:
        return _with_front(kind, inside)
    if kind not in ("both", "either", "gives"):
        raise BadText(0, "form")
    nodes = tuple([_node(item) for item in _items_of(inside)])
    if (kind == "either" and not nodes) or (kind == "gives" and len(nodes) != 2):
        raise BadText(0, "form")
    return kind, None, nodes


def _tree(text):
    """The node of a whole text."""
    if text.count("(") > MOST_BRACKETS:
        raise BadText(0, "form")
    return _node(text)


def _machine_named(letters, name, things):
    """The first machine with a name, which must be over some letters."""
    for thing in things:
        if isinstance(thing, Machine) and thing.name == name:
            check_letters(letters, [thing])
            return thing
    raise UnknownName(name)


def _program_named(letters, name, things):
    """The first program with a name, which must read some letters."""
    for thing in things:
        if isinstance(thing, Program) and thing.name == name:
            if thing.read != letters:
                raise UnlikeParts(str(letters), str(thing.read))
            return thing
    raise UnknownName(name)


def _rule_named(letters, name, known):
    """The first rule with a name, which must be over some letters."""
    for other, rule in known:
        if other == name:
            check_letters(letters, [rule])
            return rule
    raise UnknownName(name)


def _made(letters, node, things, known):
    """The rule of a node, over some letters."""
    kind, front, nodes = node
    if kind == NAMED:
        return _rule_named(letters, front, known)
    if kind == "each":
        return each(_machine_named(letters, front, things))
    if kind == "bar":
        return bar(_machine_named(letters, front, things))
    if kind == "carried":
        program = _program_named(letters, front, things)
        return carried(program, _made(program.write, nodes[0], things, known))
    return _made_of(letters, kind, front, [_made(letters, one, things, known) for one in nodes])


def _made_of(letters, kind, front, arguments):
    """The rule of a kind without machine and program, with what stands ahead of its arguments, and these."""
    if kind == "all":
        return all_rule(letters)
    if kind == "none":
        return none_rule(letters)
    if kind == "same":
        return same(letters, *front)
    if kind == "led":
        return led(letters, front[0], front[1])
    if kind == "few":
        return few(front, arguments[0])
    if kind == "beside":
        return beside(front, arguments[0])
    if kind == "gives":
        return gives(arguments[0], arguments[1])
    if kind == "either":
        return either(*arguments)
    return both(letters, *arguments)


def read_rule(letters, text, *, things_named=(), rules_named=()):
    """The rule with a text, in which some machines, programs and rules are known by their names."""
    return _made(letters, _tree(text), things_named, rules_named)


def _names_within(node):
    """The list of the names of machines, programs and rules in a node and those within it."""
    kind, front, nodes = node
    found = [front] if kind in (NAMED, "each", "bar", "carried") else []
    for one in nodes:
        found.extend(_names_within(one))
    return found


def names_in(text):
    """The names of machines, programs and known rules in the text of a rule, in ascending order."""
    return sorted(set(_names_within(_tree(text))))
