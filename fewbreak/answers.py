"""Answers of rules for told lots, and leads from the answers of one rule to those of another one."""

from fewbreak.errors import BadTable
from fewbreak.rules import check_letters
from fewbreak.told import greatest


def _least_index(part, answers):
    """The least index of an answer that has all runs of a part, None without one."""
    for index, answer in enumerate(answers):
        if all([run in answer for run in part]):
            return index
    return None


def lead(one, other, lot):
    """The lead from a rule to another one for a told lot, None if there is none."""
    check_letters(one.letters, [other])
    parts = greatest(one, lot)
    answers = greatest(other, lot)
    found = [_least_index(part, answers) for part in parts]
    return None if None in found else found


def through(first, *others):
    """Leads taken one through another, from left to right."""
    found = list(first)
    for indexes in others:
        for at, item in enumerate(found):
            if not 0 <= item < len(indexes):
                raise BadTable(at)
        found = [indexes[item] for item in found]
    return found
