"""Rules, which speak of whole lots of runs."""

from fewbreak.errors import BadNumber, TooMany, UnlikeParts, UnlikeTapes
from fewbreak.looks import check_names
from fewbreak.runs import run_text

MOST_FORMS = 40
MOST_TOLD = 10
MOST_IN_FEW = 9


def _number(kind, rules, machine, most):
    """The number of a rule."""
    numbers = [rule.number for rule in rules]
    if kind in ("none", "each"):
        return 1
    if kind in ("same", "led"):
        return 2
    if kind == "bar":
        return machine.tapes
    if kind == "both":
        return max(numbers, default=0)
    if kind == "either":
        return 0 if 0 in numbers else sum(numbers)
    if kind == "few":
        return min(most, numbers[0])
    return numbers[-1] if numbers else 0


def _front(rule):
    """What stands ahead of the arguments in the brackets of the text of a rule: a list of one string, or of none."""
    if rule.kind in ("each", "bar"):
        return [rule.machine.name]
    if rule.kind == "same":
        return [",".join(rule.before)]
    if rule.kind == "led":
        return [",".join(rule.before) + ";" + ",".join(rule.after)]
    if rule.kind == "few":
        return [str(rule.most)]
    if rule.kind == "carried":
        return [rule.program.name]
    if rule.kind == "beside":
        return [" ".join([run_text(run) for run in rule.lot])]
    return []


class Rule:
    """A rule. It never changes, and nor does what it is kept by.

    So what was worked out is held by it: machines of its broken rows by their tapes, rough ones in `rough_found` and
    least ones in `least_found`, and its rank in `rank_found`. They are for the modules broken and follows alone.
    """

    KINDS = ("all", "none", "each", "bar", "same", "led", "both", "either", "gives", "few", "carried", "beside")

    def __init__(self, kind, letters, *, rules=(), machine=None, program=None, before=None, after=None, lot=None,
                 most=None):
        self.kind = kind
        self.letters = letters
        self.rules = tuple(rules)
        self.machine = machine
        self.program = program
        self.before = before
        self.after = after
        self.lot = lot
        self.most = most
        self.number = _number(kind, rules, machine, most)
        self.forms = 1 + sum([rule.forms for rule in rules])
        self.told_runs = sum([rule.told_runs for rule in rules]) + (0 if lot is None else len(lot))
        self.rough_found = {}
        self.least_found = {}
        self.rank_found = None

    def __and__(self, other):
        return both(self.letters, self, other)

    def __or__(self, other):
        return either(self, other)

    def __rshift__(self, other):
        return gives(self, other)

    def __str__(self):
        if self.kind in ("all", "none"):
            return f"{self.kind}"
        items = _front(self) + [str(rule) for rule in self.rules]
        return f"{self.kind}({','.join(items)})"

    def __repr__(self):
        return f"Rule({str(self)})"

    def __eq__(self, other):
        return (isinstance(other, Rule) and self.kind == other.kind and self.letters == other.letters
                and self.machine == other.machine and self.program == other.program and self.before == other.before
                and self.after == other.after and self.lot == other.lot and self.most == other.most
                and self.rules == other.rules)


def limited(rule):
    """A rule that a caller asked for; raises an error if it is too large for one."""
    if rule.forms > MOST_FORMS:
        raise TooMany("forms", rule.forms)
    if rule.told_runs > MOST_TOLD:
        raise TooMany("runs", rule.told_runs)
    return rule


def check_letters(letters, rules):
    """Raises UnlikeParts for the first rule that is not over some letters."""
    for rule in rules:
        if rule.letters != letters:
            raise UnlikeParts(str(letters), str(rule.letters))


def _in_order(letters, names):
    """The tuple of names of parts, in the order of the letters."""
    return tuple([name for name in letters.names if name in names])


def all_rule(letters):
    """The rule that every lot keeps."""
    return limited(Rule("all", letters))


def none_rule(letters):
    """The rule that the empty lot keeps alone."""
    return limited(Rule("none", letters))


def each(machine):
    """The rule that a machine takes each run."""
    if machine.tapes != 1:
        raise UnlikeTapes(machine.tapes, 1)
    return limited(Rule("each", machine.letters, machine=machine))


def bar(machine):
    """The rule that a machine takes no row of the runs."""
    return limited(Rule("bar", machine.letters, machine=machine))


def same(letters, *names):
    """The rule that all runs look the same at some parts."""
    check_names(letters, names)
    return limited(Rule("same", letters, before=_in_order(letters, names), after=()))


def led(letters, before, after):
    """The rule that the signs at the parts `before`, up to each index, settle those at the parts `after`."""
    check_names(letters, before)
    check_names(letters, after)
    return limited(Rule("led", letters, before=_in_order(letters, before), after=_in_order(letters, after)))


def both(letters, *rules):
    """The rule that all of some rules are kept."""
    check_letters(letters, rules)
    return limited(Rule("both", letters, rules=rules))


def either(first, *others):
    """The rule that the lot, as a whole, keeps at least one of some rules."""
    check_letters(first.letters, others)
    return limited(Rule("either", first.letters, rules=(first,) + others))


def gives(one, other):
    """The rule that each part of the lot that keeps one rule keeps another one."""
    check_letters(one.letters, [other])
    return limited(Rule("gives", one.letters, rules=(one, other)))


def few(most, rule):
    """The rule that each part of the lot with at most so many runs keeps a rule."""
    if not 0 <= most <= MOST_IN_FEW:
        raise BadNumber(most)
    return limited(Rule("few", rule.letters, rules=(rule,), most=most))


def carried(program, rule):
    """The rule that what a program writes keeps a rule."""
    check_letters(program.write, [rule])
    return limited(Rule("carried", program.read, rules=(rule,), program=program))
