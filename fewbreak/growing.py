"""Growing runs, and the rows that may still become of them."""

from fewbreak.broken import check_room, lifts
from fewbreak.combine import any_of
from fewbreak.errors import BadNumber, EndedRun, NothingLeft, UnknownRun
from fewbreak.follows import many_enough
from fewbreak.least import aligned, rough_turned, trimmed
from fewbreak.sides import MOST_TAPES, column_at, ended_masks, runs_of
from fewbreak.walks import ends_ahead

OPEN = "open"
KEPT = "kept"
BROKEN = "broken"
FREE = -1


def _parts(rule, many):
    """Rough machines of so many tapes; a row breaks a rule if at least one of them takes it."""
    enough = many_enough(rule) if rule.number <= many else many
    # machines that look at few of the runs each are far smaller than one that looks at all of them
    found = [trimmed(part) for part in lifts(rule, enough, many)]
    return found if found else [any_of(rule.letters, many, [])]


def _fitting_places(base, pattern):
    """The places of the columns that fit a pattern, in order.

    An item of a pattern is 0 for `#`, 1 more than its place for a letter, or FREE.
    """
    codes = [0]
    for wanted in pattern:
        items = list(range(base)) if wanted == FREE else [wanted]
        codes = [code * base + item for code in codes for item in items]
    return [code - 1 for code in codes if code > 0]


class Readers:
    """Rough machines side by side, which look for rows that all of them take."""

    def __init__(self, parts):
        self.base = len(parts[0].letters) + 1
        self.masks = ended_masks(parts[0].letters, parts[0].tapes)
        self.classes, _, self.tables = aligned(parts)
        self.ends = [part.ends for part in parts]
        self.hopes = [ends_ahead(table, ends) for table, ends in zip(self.tables, self.ends)]
        self.by_pattern = {}

    def _worked_out(self, pattern):
        """As fitting, worked out anew."""
        found = {}
        for place in _fitting_places(self.base, pattern):
            # of columns that mean the same the first one is enough
            found.setdefault((self.masks[place], self.classes[place]), place)
        return [(place, mask, column_class) for (mask, column_class), place in found.items()]

    def fitting(self, pattern):
        """The triples of a column that fits a pattern, by its place, the tapes at which it has `#`, and its class."""
        if pattern not in self.by_pattern:
            self.by_pattern[pattern] = self._worked_out(pattern)
        return self.by_pattern[pattern]

    def led(self, standings, column_class):
        """The standings behind a column; None if the machines cannot all take what follows."""
        found = tuple([table[standing][column_class] for table, standing in zip(self.tables, standings)])
        return found if self._hold(self.hopes, found) else None

    def _hold(self, flags, standings):
        """Whether each machine has a flag at its standing."""
        return all([some[standing] for some, standing in zip(flags, standings)])

    def take(self, standings):
        """Whether all machines take what led to some standings."""
        return self._hold(self.ends, standings)


def _way_back(came, key):
    """The list of the places of the columns that led to a key."""
    found = []
    while came[key] is not None:
        key, place = came[key]
        found.append(place)
    return found[::-1]


class Growing:
    """Growing runs and a rule. Runs begin empty, grow by one letter after another, and end."""

    def __init__(self, rule, many):
        if not 1 <= many <= MOST_TAPES:
            raise BadNumber(many)
        check_room(rule, many)
        self.rule = rule
        self._runs = [()] * many
        self._ended = [False] * many
        self._grown = []
        parts = _parts(rule, many)
        self._breaking = [Readers([part]) for part in parts]
        self._keeping = Readers([rough_turned(part) for part in parts])

    @property
    def many(self):
        """The number of the runs."""
        return len(self._runs)

    def _check_grows(self, at):
        """Raises an error for an index of no run, or of one that has ended."""
        if not 0 <= at < len(self._runs):
            raise UnknownRun(at)
        if self._ended[at]:
            raise EndedRun(at)

    def grow(self, at, letter):
        """The run with an index grows by a letter."""
        self._check_grows(at)
        if not self.rule.letters.is_letter(letter):
            raise BadNumber(letter)
        self._runs[at] = self._runs[at] + (letter,)
        self._grown.append(at)

    def finish(self, at):
        """The run with an index ends."""
        self._check_grows(at)
        self._ended[at] = True
        self._grown.append(at)

    def step_back(self):
        """Takes the last growth or end back that still stands."""
        if not self._grown:
            raise NothingLeft()
        at = self._grown.pop()
        # an ended run has ended with its last step
        if self._ended[at]:
            self._ended[at] = False
        else:
            self._runs[at] = self._runs[at][:-1]

    def so_far(self):
        """The list of the runs."""
        return list(self._runs)

    def finished(self):
        """The ascending list of the indexes of the runs that have ended."""
        return [at for at, ended in enumerate(self._ended) if ended]

    def _pattern(self, codes, count, mask):
        """The pattern of the next column of a way on that has so many columns, and `#` at some tapes."""
        found = []
        for at, run in enumerate(codes):
            if count < len(run):
                found.append(run[count])
            else:
                found.append(0 if self._ended[at] or mask & (1 << at) else FREE)
        return tuple(found)

    def _first_taken(self, readers):
        """The places of the columns of the first way on that all of some readers take, None without one."""
        letters = self.rule.letters
        codes = [[letters.place(letter) + 1 for letter in run] for run in self._runs]
        longest = max([len(run) for run in codes])
        # a key has the number of columns, as far as runs ask for them, the tapes that have `#`, and the standings
        start = (0, 0, (0,) * len(readers.tables))
        level = [start]
        came = {start: None}
        while level:
            after = []
            for key in level:
                count, mask, standings = key
                if count == longest and readers.take(standings):
                    return _way_back(came, key)
                for place, ended, column_class in readers.fitting(self._pattern(codes, count, mask)):
                    target = (min(count + 1, longest), ended, readers.led(standings, column_class))
                    if target[2] is not None and target not in came:
                        came[target] = (key, place)
                        after.append(target)
            level = after
        return None

    def _first_way(self, breaking):
        """The places of the columns of the first way on whose lot breaks the rule, or keeps it, None without one."""
        if not breaking:
            return self._first_taken(self._keeping)
        ways = [self._first_taken(readers) for readers in self._breaking]
        keys = [(len(way), way) for way in ways if way is not None]
        return min(keys)[1] if keys else None

    def verdict(self):
        """`kept` if no way on breaks the rule, `broken` if each one does, `open` otherwise."""
        if self._first_way(True) is None:
            return KEPT
        return BROKEN if self._first_way(False) is None else OPEN

    def way_on(self, *, breaking=True):
        """The first way on whose lot breaks the rule, or keeps it, as a row; None if there is none."""
        way = self._first_way(breaking)
        if way is None:
            return None
        many = len(self._runs)
        return runs_of([column_at(self.rule.letters, many, place) for place in way], many)
