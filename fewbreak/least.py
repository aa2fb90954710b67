"""Least machines: one for each set of rows that a machine can take."""

from fewbreak.machines import Machine
from fewbreak.sides import column_codes
from fewbreak.walks import walked

UNFILLED = -1


class Partition:
    """Standings in blocks. The standings of a block stand side by side, the marked ones ahead of the others."""

    def __init__(self, many):
        self.order = list(range(many))
        self.spots = list(range(many))
        self.blocks = [0] * many
        self.firsts = [0]
        self.sizes = [many]
        self.marks = [0]
        self.waits = [False]
        self.waiting = []

    def mark(self, standing):
        """Marks a standing that has no mark."""
        block = self.blocks[standing]
        spot = self.spots[standing]
        goal = self.firsts[block] + self.marks[block]
        moved = self.order[goal]
        self.order[goal] = standing
        self.order[spot] = moved
        self.spots[standing] = goal
        self.spots[moved] = spot
        self.marks[block] += 1

    def members(self, block):
        """The list of the standings of a block."""
        first = self.firsts[block]
        return self.order[first:first + self.sizes[block]]

    def parted(self, block):
        """Makes the marked standings of a block a new one, and forgets the marks; None if no other ones are left."""
        marked = self.marks[block]
        self.marks[block] = 0
        if marked == self.sizes[block]:
            return None
        new = len(self.firsts)
        first = self.firsts[block]
        self.firsts[block] = first + marked
        self.sizes[block] -= marked
        self.firsts.append(first)
        self.sizes.append(marked)
        self.marks.append(0)
        self.waits.append(False)
        for standing in self.order[first:first + marked]:
            self.blocks[standing] = new
        return new

    def await_half(self, block, new):
        """Notes by which of two halves of a block others must still be parted.

        The smaller half is enough (Hopcroft), unless the whole block was still waiting; then both must wait.
        """
        half = block
        if self.waits[block] or self.sizes[new] <= self.sizes[block]:
            half = new
        self.waits[half] = True
        self.waiting.append(half)

    def next_block(self):
        """Takes a block that waits."""
        block = self.waiting.pop()
        self.waits[block] = False
        return block


def _arrows_back(rows):
    """For each standing the pairs of a place and a standing that has it as its next one there."""
    back = [[] for _ in rows]
    for standing, row in enumerate(rows):
        for place, target in enumerate(row):
            back[target].append((place, standing))
    return back


def _sources(standings, back):
    """For each place with one, the list of the standings that have one of some standings as their next one there."""
    found = {}
    for standing in standings:
        for place, source in back[standing]:
            found.setdefault(place, []).append(source)
    return list(found.values())


def _cut(parts, marked):
    """Parts the blocks that have some of the marked standings and other ones."""
    touched = {}
    for standing in marked:
        touched[parts.blocks[standing]] = True
        parts.mark(standing)
    for block in touched:
        new = parts.parted(block)
        if new is not None:
            parts.await_half(block, new)


def _blocks(rows, ends):
    """For each standing the number of its block: two standings share one if the same ways lead from them to ends."""
    parts = Partition(len(rows))
    back = _arrows_back(rows)
    _cut(parts, [standing for standing, end in enumerate(ends) if end])
    while parts.waiting:
        standings = parts.members(parts.next_block())
        for marked in _sources(standings, back):
            _cut(parts, marked)
    return parts.blocks


def _filled(letters, tapes, rows, ends):
    """The rows and ends of standings that lead to ends by filled lists alone, and that are all reached.

    A key is a standing and the set of the tapes whose runs have ended, as the bits of a number.
    """
    ended_at = []
    for code in column_codes(letters, tapes):
        ended_at.append(sum([1 << tape for tape, item in enumerate(code) if item == 0]))
    span = 1 << tapes

    def nexts_of(key):
        if key == UNFILLED:
            return [UNFILLED] * len(ended_at)
        ended = key & (span - 1)
        row = rows[key >> tapes]
        return [(target << tapes) + now if (now & ended) == ended else UNFILLED for target, now in zip(row, ended_at)]

    keys, found = walked(0, nexts_of)
    return found, [key != UNFILLED and ends[key >> tapes] for key in keys]


def least_of(letters, tapes, rows, ends):
    """The least machine that takes the same rows as standings with these rows and ends."""
    filled_rows, filled_ends = _filled(letters, tapes, rows, ends)
    blocks = _blocks(filled_rows, filled_ends)
    samples = {}
    for standing, block in enumerate(blocks):
        samples[block] = standing

    def nexts_of(block):
        return [blocks[target] for target in filled_rows[samples[block]]]

    found, least_rows = walked(blocks[0], nexts_of)
    return Machine(letters, tapes, least_rows, [filled_ends[samples[block]] for block in found])


def least(machine):
    """The least machine that is alike."""
    return least_of(machine.letters, machine.tapes, machine.rows, machine.ends)


def is_least(machine):
    """Whether a machine is least."""
    return machine == least(machine)


def like(one, other):
    """Whether two machines are alike."""
    return least(one) == least(other)
