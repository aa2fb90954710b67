"""Live lots: a rule and a told lot that change."""

from fewbreak.errors import BadRun, HeldTwice, NotHeld, TooMany
from fewbreak.meaning import MOST_RUNS, checked_lot, least_broken, lot_keeps
from fewbreak.rules import check_letters
from fewbreak.runs import is_run, told_lot
from fewbreak.told import greatest, staying, struck


def _check_many(rule, many):
    """Raises TooMany if a rule and so many runs are too many for the plain meaning."""
    if many + rule.told_runs > MOST_RUNS:
        raise TooMany("runs", many + rule.told_runs)


class Live:
    """A live lot. It tells what the functions for told lots tell of its present runs and its present rule."""

    def __init__(self, rule, lot=()):
        self.rule = rule
        self._held = checked_lot(rule, lot)

    @property
    def many(self):
        """The number of the runs."""
        return len(self._held)

    def put_in(self, run):
        """Puts a run in."""
        if not is_run(self.rule.letters, run):
            raise BadRun(0)
        if run in self._held:
            raise HeldTwice(run)
        _check_many(self.rule, len(self._held) + 1)
        self._held = told_lot(self.rule.letters, self._held + [run])

    def take_out(self, run):
        """Takes a run out."""
        if not is_run(self.rule.letters, run):
            raise BadRun(0)
        if run not in self._held:
            raise NotHeld(run)
        self._held = [held for held in self._held if held != run]

    def change(self, old, new):
        """Takes a run out and puts another one in."""
        if not is_run(self.rule.letters, old):
            raise BadRun(0)
        if not is_run(self.rule.letters, new):
            raise BadRun(1)
        if old not in self._held:
            raise NotHeld(old)
        if new in self._held:
            raise HeldTwice(new)
        self._held = told_lot(self.rule.letters, [held for held in self._held if held != old] + [new])

    def set_rule(self, rule):
        """Puts another rule in the place of the present one."""
        check_letters(self.rule.letters, [rule])
        _check_many(rule, len(self._held))
        self.rule = rule

    def told(self):
        """The present runs, in order."""
        return list(self._held)

    def stands(self):
        """Whether the present lot keeps the rule."""
        return lot_keeps(self.rule, self._held)

    def broken_parts(self):
        """The parts of the present lot that are least broken, in order."""
        return least_broken(self.rule, self._held)

    def greatest_parts(self):
        """The greatest parts of the present lot that keep the rule, in order."""
        return greatest(self.rule, self._held)

    def struck_runs(self):
        """The struck runs of the present lot, in order."""
        return struck(self.rule, self._held)

    def staying_runs(self):
        """The runs of the present lot that stay, in order."""
        return staying(self.rule, self._held)

    def __contains__(self, run):
        return run in self._held

    def __len__(self):
        return len(self._held)

    def __bool__(self):
        return True
