"""Plans: questions that are asked about an unknown run of a told lot until a wish is kept.

A part of the lot is told by the ascending tuple of the indexes of its runs. A rule is told by its broken parts, as in
the module told.
"""

from fewbreak.errors import CantAnswer, TooMany
from fewbreak.meaning import broken_parts, checked_lot
from fewbreak.rules import check_letters
from fewbreak.runs import told_lot
from fewbreak.told import answers_within

MOST_RUNS = 6
NO_QUESTION = -1


def _number_of(part):
    """The number of a part among broken parts."""
    return sum([1 << at for at in part])


class Board:
    """A told lot of so many runs, with the broken parts of a wish and of questions; it remembers depths of parts."""

    def __init__(self, many, wish_broken, asked):
        self.whole = tuple(range(many))
        self.wish_broken = wish_broken
        self.asked = asked
        self.depths = {}
        self.answers_found = {}

    def wish_kept(self, part):
        """Whether a part keeps the wish."""
        return not self.wish_broken[_number_of(part)]

    def answers_of(self, part, question):
        """The answers of a question for a part."""
        key = (part, question)
        if key not in self.answers_found:
            self.answers_found[key] = answers_within(self.asked[question], part)
        return self.answers_found[key]

    def _depth_by(self, part, question):
        """The depth that a question gives to a part, None if the question does not count."""
        found = self.answers_of(part, question)
        if part in found:
            return None
        depths = [self.best(answer)[0] for answer in found]
        return None if None in depths else max(depths) + 1

    def _worked_out(self, part):
        """As best, worked out anew."""
        if self.wish_kept(part):
            return 0, NO_QUESTION
        by_questions = [(self._depth_by(part, question), question) for question in range(len(self.asked))]
        return min([pair for pair in by_questions if pair[0] is not None], default=(None, NO_QUESTION))

    def best(self, part):
        """The pair of the depth of a part and of the first question that gives it; the depth may be None."""
        if part not in self.depths:
            self.depths[part] = self._worked_out(part)
        return self.depths[part]


def _check_answers(asked, runs):
    """Raises CantAnswer for the first question, told by its broken parts, that a run breaks alone."""
    for question, broken in enumerate(asked):
        for at, run in enumerate(runs):
            if broken[1 << at]:
                raise CantAnswer(question, run)


def _board(questions, wish, lot):
    """The board of a told lot, questions and a wish; raises the errors of plans."""
    runs = told_lot(wish.letters, lot)
    if len(runs) > MOST_RUNS:
        raise TooMany("runs", len(runs))
    check_letters(wish.letters, questions)
    for rule in [wish] + list(questions):
        checked_lot(rule, runs)
    asked = [broken_parts(question, runs) for question in questions]
    _check_answers(asked, runs)
    return Board(len(runs), broken_parts(wish, runs), asked)


def plan(questions, wish, lot):
    """The ascending list of the pairs of a part and its question, None if the whole lot has no depth."""
    board = _board(questions, wish, lot)
    if board.best(board.whole)[0] is None:
        return None
    found = {board.whole: True}
    waiting = [board.whole]
    pairs = []
    while waiting:
        part = waiting.pop()
        question = board.best(part)[1]
        pairs.append((part, question))
        if question != NO_QUESTION:
            for answer in board.answers_of(part, question):
                if answer not in found:
                    found[answer] = True
                    waiting.append(answer)
    return sorted(pairs)


def plan_depth(questions, wish, lot):
    """The depth of a whole told lot, None if it has none."""
    board = _board(questions, wish, lot)
    return board.best(board.whole)[0]


def _is_part(board, part):
    """Whether a tuple of numbers is a part of the lot."""
    if not all([0 <= at < len(board.whole) for at in part]):
        return False
    return all([one < other for one, other in zip(part, part[1:])])


def _is_right(board, part, question, held):
    """Whether a pair of a part and a question may stand in a plan with some parts."""
    if not _is_part(board, part):
        return False
    if question == NO_QUESTION:
        return board.wish_kept(part)
    if not 0 <= question < len(board.asked):
        return False
    return all([len(answer) < len(part) and answer in held for answer in board.answers_of(part, question)])


def is_plan(questions, wish, lot, pairs):
    """Whether a list of pairs of a part and a question is right as a plan."""
    board = _board(questions, wish, lot)
    held = {tuple(part): True for part, _ in pairs}
    if len(held) != len(pairs) or board.whole not in held:
        return False
    return all([_is_right(board, tuple(part), question, held) for part, question in pairs])
