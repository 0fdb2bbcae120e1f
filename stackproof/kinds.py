"""What is behind a row, told by kinds alone."""

from stackproof.blocks import block_of
from stackproof.errors import Apart, Empty, WrongKind
from stackproof.rows import check, put_by, wanted

# The kind of the one value that a row puts. The rows that are not here put
# values that they took, so that they do with kinds what they do with values.
NEW_KIND = {
    "num": "num",
    "text": "text",
    "add": "num",
    "mul": "num",
    "less": "num",
    "join": "text",
    "long": "num",
    "show": "text",
}


def kinds_put(row, taken):
    """The kinds that a plain row puts in the place of those that it takes."""
    word = row[0]
    if word in NEW_KIND:
        return [NEW_KIND[word]]
    return put_by(row, taken)


def lead_plain(kinds, row):
    """As lead does, by a plain row."""
    place = max(0, len(kinds) - wanted(row))
    taken = kinds[place:]
    check(row, taken)
    kinds[place:] = kinds_put(row, taken)


def lead_call(program, kinds, name):
    """As lead does, by a call of that block."""
    block = block_of(program, name)
    ins = list(block[0])
    place = len(kinds) - len(ins)
    if place < 0:
        raise Empty(f"{name} wants {len(ins)} values and there are {len(kinds)}")
    if kinds[place:] != ins:
        raise WrongKind(f"{name} takes values of other kinds")
    kinds[place:] = list(block[1])


def lead_if(program, kinds, row):
    """As lead does, by an if."""
    check(row, kinds[-1:])
    yes = block_of(program, row[1])
    no = block_of(program, row[2])
    if yes[0] != no[0] or yes[1] != no[1]:
        raise Apart(f"{row[1]} and {row[2]} do not tell the same ins and outs")
    kinds.pop()
    lead_call(program, kinds, row[1])


def lead(program, kinds, row):
    """Make of kinds, a list, what is behind a row. It is of no more use where the row is refused."""
    word = row[0]
    if word == "call":
        lead_call(program, kinds, row[1])
    elif word == "if":
        lead_if(program, kinds, row)
    else:
        lead_plain(kinds, row)


def behind(program, kinds, row):
    """The kinds behind a row, a tuple."""
    after = list(kinds)
    lead(program, after, row)
    return tuple(after)
