"""The blocks of a program, and to which others each of them can come."""

from stackproof.errors import NoBlock


def block_of(program, name):
    """The block of that name, refused where it is not there."""
    if name not in program:
        raise NoBlock(f"there is no block {name}")
    return program[name]


def names_in(row):
    """The names of the blocks that a row names."""
    if row[0] in ("call", "if"):
        return row[1:]
    return ()


def named_by(program, name):
    """The blocks that the rows of a block name, each once. One that is not there names none."""
    found = {}
    if name in program:
        for row in program[name][2]:
            for other in names_in(row):
                found[other] = True
    return list(found)


def reach(program, name):
    """A block and all to which it can come, each once, also those that are not there."""
    found = {name: True}
    ahead = [name]
    while ahead:
        here = ahead.pop()
        for other in named_by(program, here):
            if other not in found:
                found[other] = True
                ahead.append(other)
    return list(found)
