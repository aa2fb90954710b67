"""Least machines: one for each set of rows that a machine can take, and the rough ones from which they are made."""

from fewbreak.machines import Machine
from fewbreak.sides import ended_masks
from fewbreak.walks import numbered, walked

ROUNDS = 16


class Partition:
    """Standings in blocks. The standings of a block stand side by side, the marked ones ahead of the others."""

    def __init__(self, many):
        self.order = list(range(many))
        self.spots = list(range(many))
        self.blocks = [0] * many
        self.firsts = [0]
        self.sizes = [many]
        self.marks = [0]
        self.waits = [False]
        self.waiting = []

    def mark(self, standing):
        """Marks a standing that has no mark."""
        block = self.blocks[standing]
        spot = self.spots[standing]
        goal = self.firsts[block] + self.marks[block]
        moved = self.order[goal]
        self.order[goal] = standing
        self.order[spot] = moved
        self.spots[standing] = goal
        self.spots[moved] = spot
        self.marks[block] += 1

    def members(self, block):
        """The list of the standings of a block."""
        first = self.firsts[block]
        return self.order[first:first + self.sizes[block]]

    def parted(self, block):
        """Makes the marked standings of a block a new one, and forgets the marks; None if no other ones are left."""
        marked = self.marks[block]
        self.marks[block] = 0
        if marked == self.sizes[block]:
            return None
        new = len(self.firsts)
        first = self.firsts[block]
        self.firsts[block] = first + marked
        self.sizes[block] -= marked
        self.firsts.append(first)
        self.sizes.append(marked)
        self.marks.append(0)
        self.waits.append(False)
        for standing in self.order[first:first + marked]:
            self.blocks[standing] = new
        return new

    def await_half(self, block, new):
        """Notes by which of two halves of a block others must still be parted.

        The smaller half is enough (Hopcroft), unless the whole block was still waiting; then both must wait.
        """
        half = block
        if self.waits[block] or self.sizes[new] <= self.sizes[block]:
            half = new
        self.waits[half] = True
        self.waiting.append(half)

    def next_block(self):
        """Takes a block that waits."""
        block = self.waiting.pop()
        self.waits[block] = False
        return block


def _arrows_back(rows):
    """For each standing the pairs of a place and a standing that has it as its next one there."""
    back = [[] for _ in rows]
    for standing, row in enumerate(rows):
        for place, target in enumerate(row):
            back[target].append((place, standing))
    return back


def _sources(standings, back):
    """For each place with one, the list of the standings that have one of some standings as their next one there."""
    found = {}
    for standing in standings:
        for place, source in back[standing]:
            found.setdefault(place, []).append(source)
    return list(found.values())


def _cut(parts, marked):
    """Parts the blocks that have some of the marked standings and other ones."""
    touched = {}
    for standing in marked:
        touched[parts.blocks[standing]] = True
        parts.mark(standing)
    for block in touched:
        new = parts.parted(block)
        if new is not None:
            parts.await_half(block, new)


def _blocks_by_halves(rows, ends):
    """As _blocks, for many standings, or ways that must be long to tell some of them apart."""
    parts = Partition(len(rows))
    back = _arrows_back(rows)
    _cut(parts, [standing for standing, end in enumerate(ends) if end])
    while parts.waiting:
        standings = parts.members(parts.next_block())
        for marked in _sources(standings, back):
            _cut(parts, marked)
    return parts.blocks


def _blocks(rows, ends):
    """For each standing the number of its block: two standings share one if the same ways lead from them to ends."""
    blocks, firsts = numbered([bool(end) for end in ends])
    # most machines are parted in a few rounds, which are quicker than halves
    for _ in range(ROUNDS):
        looks = [(block, tuple([blocks[target] for target in row])) for block, row in zip(blocks, rows)]
        finer, finer_firsts = numbered(looks)
        if len(finer_firsts) == len(firsts):
            return blocks
        blocks = finer
        firsts = finer_firsts
    return _blocks_by_halves(rows, ends)


def _merged(rows, ends):
    """The rows and the ends of blocks of standings, numbered as they are reached."""
    blocks = _blocks(rows, ends)
    samples = {}
    for standing, block in enumerate(blocks):
        samples[block] = standing

    def nexts_of(block):
        return [blocks[target] for target in rows[samples[block]]]

    found, merged_rows = walked(blocks[0], nexts_of)
    return merged_rows, [ends[samples[block]] for block in found]


class Rough:
    """A machine that matters only by what it takes: what it makes of lists of columns that are not filled is free.

    So it can do with far fewer standings than a least machine. Columns that lead alike from each standing may share a
    class: `classes` has the class of each column, by its place, and `rows` the next standings of each standing, by the
    classes. It never changes.
    """

    def __init__(self, letters, tapes, classes, rows, ends):
        self.letters = letters
        self.tapes = tapes
        self.classes = classes
        self.rows = rows
        self.ends = ends


def rough_of_rows(letters, tapes, rows, ends):
    """The rough machine of standings with these rows, by the places of the columns, and ends."""
    classes, firsts = numbered(list(zip(*rows)))
    return Rough(letters, tapes, classes, [[row[first] for first in firsts] for row in rows], ends)


def rough_of(machine):
    """A machine as a rough one."""
    return rough_of_rows(machine.letters, machine.tapes, machine.rows, machine.ends)


def rough_turned(rough):
    """The rough machine that takes all rows that a rough one does not take."""
    return Rough(rough.letters, rough.tapes, rough.classes, rough.rows, [not end for end in rough.ends])


def trimmed(rough):
    """A rough machine without standings that mean the same, and without classes that do."""
    rows, ends = _merged(rough.rows, rough.ends)
    finer, firsts = numbered(list(zip(*rows)))
    return Rough(rough.letters, rough.tapes, [finer[old] for old in rough.classes],
                 [[row[first] for first in firsts] for row in rows], ends)


def filled_only(letters, tapes):
    """The rough machine that takes all rows, and whose last standing is reached by lists that are not filled.

    The others are the sets of the tapes whose runs have ended, as the bits of a number.
    """
    unfilled = (1 << tapes) - 1
    sets = list(range(unfilled))
    rows = [[now if (now & ended) == ended else unfilled for now in sets] for ended in sets]
    rows.append([unfilled] * unfilled)
    return Rough(letters, tapes, ended_masks(letters, tapes), rows, [True] * unfilled + [False])


def _padded_codes(rough, ended):
    """For each column its code with `#` at the tapes where runs have ended, the bits of a number; 0 for no letters."""
    base = len(rough.letters) + 1
    codes = [0]
    for tape in range(rough.tapes):
        items = [0] * base if ended & (1 << tape) else list(range(base))
        codes = [code * base + item for code in codes for item in items]
    return codes[1:]


def padded(rough):
    """A rough machine that reads behind the end of a run nothing but `#`, whatever stands there.

    What is made of padded machines has few standings, since how they read lists that are not filled tells none of them
    from another.
    """
    masks = ended_masks(rough.letters, rough.tapes)
    codes = [_padded_codes(rough, ended) for ended in range(1 << rough.tapes)]

    def next_of(standing, code):
        return standing if code == 0 else rough.rows[standing][rough.classes[code - 1]]

    def nexts_of(key):
        ended, standing = key
        return [(ended | mask, next_of(standing, code)) for mask, code in zip(masks, codes[ended])]

    keys, rows = walked((0, 0), nexts_of)
    return trimmed(rough_of_rows(rough.letters, rough.tapes, rows, [rough.ends[standing] for _, standing in keys]))


def aligned(parts):
    """What rough machines with equal letters and tapes need to be read side by side.

    This is the class of each column, which all of them share, the first column of each class, and for each of the
    machines its rows by these classes. The classes are numbered by their first columns.
    """
    of_parts = [part.classes for part in parts]
    classes, firsts = numbered(list(zip(*of_parts)))
    tables = []
    for part in parts:
        picks = [part.classes[first] for first in firsts]
        tables.append([[row[pick] for pick in picks] for row in part.rows])
    return classes, firsts, tables


def _filled(rough):
    """The classes, rows and ends of a rough machine, where only filled lists lead to ends."""
    letters, tapes = rough.letters, rough.tapes
    classes, _, tables = aligned([filled_only(letters, tapes), rough])
    sets, rows = tables
    unfilled = len(sets) - 1

    def nexts_of(key):
        if key[0] == unfilled:
            return [(unfilled, 0)] * len(sets[0])
        pairs = list(zip(sets[key[0]], rows[key[1]]))
        return [(unfilled, 0) if pair[0] == unfilled else pair for pair in pairs]

    keys, found = walked((0, 0), nexts_of)
    return classes, found, [ended != unfilled and rough.ends[standing] for ended, standing in keys]


def least_from(rough):
    """The least machine that takes what a rough one takes."""
    classes, rows, ends = _filled(rough)
    least_rows, least_ends = _merged(rows, ends)
    return Machine(rough.letters, rough.tapes, [[row[one] for one in classes] for row in least_rows], least_ends)


def least_of(letters, tapes, rows, ends):
    """The least machine that takes the same rows as standings with these rows and ends."""
    return least_from(rough_of_rows(letters, tapes, rows, ends))


def least(machine):
    """The least machine that is alike."""
    return least_of(machine.letters, machine.tapes, machine.rows, machine.ends)


def is_least(machine):
    """Whether a machine is least."""
    return machine == least(machine)


def like(one, other):
    """Whether two machines are alike."""
    return least(one) == least(other)
