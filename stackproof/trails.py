"""Trails: the kinds ahead of each row of a block, and what can be told by them."""

from stackproof.blocks import block_of, named_by, names_in, reach
from stackproof.errors import Apart, Empty, NoBlock, StackError, WrongKind
from stackproof.kinds import behind, lead


def refusal(program, kinds, row):
    """Lead kinds, a list, behind a row; the word of its refusal, or None."""
    try:
        lead(program, kinds, row)
    except Empty:
        return "empty"
    except WrongKind:
        return "kind"
    except NoBlock:
        return "block"
    except Apart:
        return "apart"
    return None


def fault(program, name):
    """The fault of a block, its place and its word, or None."""
    ins, outs, rows = block_of(program, name)
    kinds = list(ins)
    for place, row in enumerate(rows):
        word = refusal(program, kinds, row)
        if word is not None:
            return (place, word)
    if tuple(kinds) != outs:
        return (len(rows), "end")
    return None


def trail_of(program, name):
    """The trail of a block, a list of tuples of kinds, or None where it has a fault."""
    if fault(program, name) is not None:
        return None
    block = block_of(program, name)
    trail = [block[0]]
    for row in block[2]:
        trail.append(behind(program, trail[-1], row))
    return trail


def leads(program, kinds, row, after):
    """Whether a row leads from these kinds to those behind it."""
    try:
        return behind(program, kinds, row) == after
    except StackError:
        return False


def holds(program, name, trail):
    """Whether a list is the trail of a block."""
    ins, outs, rows = block_of(program, name)
    if len(trail) != len(rows) + 1:
        return False
    if trail[0] != ins or trail[-1] != outs:
        return False
    for place, row in enumerate(rows):
        if not leads(program, trail[place], row, trail[place + 1]):
            return False
    return True


def let_by(program, name):
    """Whether a block and all to which it can come are there and have no fault."""
    for other in reach(program, name):
        if other not in program or fault(program, other) is not None:
            return False
    return True


def height_within(program, many, row, heights):
    """The most values while a row's blocks are done, with many ahead of it. 0 for a plain row."""
    names = names_in(row)
    if not names:
        return 0
    taken = 1 if row[0] == "if" else 0
    beneath = many - taken - len(block_of(program, names[0])[0])
    return beneath + max([heights[name] for name in names])


def height_by(program, name, heights):
    """The height of a block by the heights of those that it names."""
    block = block_of(program, name)
    kinds = list(block[0])
    most = len(kinds)
    for row in block[2]:
        most = max(most, height_within(program, len(kinds), row, heights))
        lead(program, kinds, row)
        most = max(most, len(kinds))
    return most


def ready_ones(named, heights):
    """The blocks without a height that name none without one."""
    found = []
    for name in named:
        if name not in heights and all([other in heights for other in named[name]]):
            found.append(name)
    return found


def height(program, name):
    """The height of a block that is let by, or None where it leads to a circle."""
    named = {}
    for other in reach(program, name):
        named[other] = named_by(program, other)
    heights = {}
    while name not in heights:
        ready = ready_ones(named, heights)
        # A block in a circle waits for itself, and all that leads to it waits for it.
        if not ready:
            return None
        for other in ready:
            heights[other] = height_by(program, other, heights)
    return heights[name]
