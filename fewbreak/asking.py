"""Questions about a desk, their answers, and answers that are judged."""

from fewbreak.carrying import check_reads
from fewbreak.choices import least_choices, short_lot
from fewbreak.errors import BadDeed, UnknownName
from fewbreak.follows import is_against
from fewbreak.ranks import rank, rung
from fewbreak.rules import carried, each
from fewbreak.tables import table_fault, table_or_lot
from fewbreak.vectors import vectors

YES = "yes"
NO = "no"
RULES = "rules"
# for each kind of question the kinds of the entries whose names stand behind it
FORMS = {
    "follows": ("rules", "rule"), "keeps": ("machine", "rule"), "carries": ("rule", "program", "rule"),
    "rank": ("rule",), "choice": ("rules", "rule"),
}
JUDGED = ("follows", "keeps", "carries")


def _is_item(kind, item):
    """Whether an item of a question is a name, or a tuple of names."""
    if kind != RULES:
        return isinstance(item, str)
    return isinstance(item, tuple) and all([isinstance(name, str) for name in item])


def _is_question(question):
    """Whether a tuple has the form of a question."""
    if not isinstance(question, tuple) or not question or not isinstance(question[0], str):
        return False
    kinds = FORMS.get(question[0], ())
    if len(kinds) != len(question) - 1 or not kinds:
        return False
    return all([_is_item(kind, item) for kind, item in zip(kinds, question[1:])])


def _wanted(question):
    """The pairs of a name in a question and the kind of entry that it must have, from left to right."""
    found = []
    for kind, item in zip(FORMS[question[0]], question[1:]):
        if kind == RULES:
            found.extend([(name, "rule") for name in item])
        else:
            found.append((item, kind))
    return found


def _check_known(desk, wanted):
    """Raises UnknownName for the first name that is that of no entry of its kind."""
    for name, kind in wanted:
        if name not in desk or desk.deed(name)[0] != kind:
            raise UnknownName(name)


def _deeds_behind(desk, wanted):
    """The tuple of the deeds of some entries and of those that they use, in the order of their names."""
    names = []
    for name, _ in wanted:
        names.append(name)
        names.extend(desk.used(name))
    return tuple([desk.deed(name) for name in sorted(set(names))])


def _things(desk, names):
    """The list of the things of some entries."""
    return [desk.thing(name) for name in names]


def _asked_rules(desk, question):
    """The rules and the wish of a question whose answers may be judged."""
    if question[0] == "follows":
        return _things(desk, question[1]), desk.thing(question[2])
    if question[0] == "keeps":
        machine, rule = _things(desk, question[1:])
        return [each(machine)], rule
    before, program, after = _things(desk, question[1:])
    return [before], carried(program, after)


def _yes_or_no(desk, question):
    """The answer to a question whether some rules follow to a wish."""
    rules, wish = _asked_rules(desk, question)
    rows, lot = table_or_lot(rules, wish)
    return (YES, rows) if lot is None else (NO, lot)


def _carries_answer(desk, question):
    """The answer to a question about a program and two rules."""
    # an answer that is judged does not ask first whether the program reads what keeps the first rule
    check_reads(desk.thing(question[2]), desk.thing(question[1]))
    return _yes_or_no(desk, question)


def _rank_answer(desk, question):
    """The answer to a question about the rank of a rule."""
    rule = desk.thing(question[1])
    found = rank(rule)
    return "rank", found, rung(rule, found - 1) if found > 0 else None


def _choice_answer(desk, question):
    """The answer to a question about a stock and a wish."""
    stock = _things(desk, question[1])
    found = vectors(stock, desk.thing(question[2]))
    lot = short_lot(found)
    if lot is not None:
        return "short", lot
    return "enough", least_choices(found, len(stock))[0]


ANSWERS = {
    "follows": _yes_or_no, "keeps": _yes_or_no, "carries": _carries_answer, "rank": _rank_answer,
    "choice": _choice_answer,
}


def _answer(desk, question):
    """The answer to a question, worked out anew."""
    work = ANSWERS[question[0]]
    return work(desk, question)


class Asker:
    """Asks questions of a desk, and remembers the answers with the deeds on which they rest."""

    def __init__(self, desk):
        self.desk = desk
        self._answers = {}
        self._count = 0

    @property
    def worked(self):
        """How many answers were worked out anew."""
        return self._count

    def ask(self, question):
        """The answer to a question."""
        if not _is_question(question):
            raise BadDeed()
        wanted = _wanted(question)
        _check_known(self.desk, wanted)
        key = (question, _deeds_behind(self.desk, wanted))
        if key not in self._answers:
            self._answers[key] = _answer(self.desk, question)
            self._count += 1
        return tuple([list(item) if isinstance(item, list) else item for item in self._answers[key]])

    def judged(self, question, answer):
        """Whether an answer to a question is right for the present entries."""
        if not _is_question(question) or question[0] not in JUDGED:
            raise BadDeed()
        if not answer or answer[0] not in (YES, NO):
            raise BadDeed()
        _check_known(self.desk, _wanted(question))
        rules, wish = _asked_rules(self.desk, question)
        if answer[0] == YES:
            return table_fault(rules, wish, answer[1]) is None
        return is_against(rules, wish, answer[1])
