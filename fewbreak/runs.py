"""Runs and told lots, with their texts and their order."""

from fewbreak.errors import BadRun, BadText

EMPTY_RUN = "-"


def is_run(letters, run):
    """Whether a tuple of strings is a run over the letters."""
    return all([letters.is_letter(letter) for letter in run])


def run_text(run):
    """The text of a run."""
    if not run:
        return EMPTY_RUN
    return ".".join(run)


def read_run(letters, text):
    """The run with a text."""
    if text == EMPTY_RUN:
        return ()
    run = tuple(text.split("."))
    if not is_run(letters, run):
        raise BadText(0, "form")
    return run


def run_key(letters, run):
    """What runs are ordered by: the length, and then the places of the letters."""
    if not is_run(letters, run):
        raise BadRun(0)
    return len(run), tuple([letters.place(letter) for letter in run])


def told_lot(letters, lot):
    """The runs of a lot in their order, without duplicates."""
    found = {}
    for at, run in enumerate(lot):
        if not is_run(letters, run):
            raise BadRun(at)
        found[run_key(letters, run)] = run
    return [found[key] for key in sorted(found)]


def lot_text(letters, lot):
    """The text of a told lot."""
    return " ".join([run_text(run) for run in told_lot(letters, lot)])


def read_lot(letters, text):
    """The told lot with a text."""
    if text == "":
        return []
    return told_lot(letters, [read_run(letters, word) for word in text.split(" ")])
