"""Plain rows: each takes values from the top of a stack and puts others in their place."""

from stackproof.errors import Empty, WrongKind

MODULUS = 1000000000
MOST_SIGNS = 60

# How many values a row takes. Of copy only its own k tells that. An if is not a
# plain row, but it takes its number as those rows do.
WANTED = {
    "num": 0,
    "text": 0,
    "add": 2,
    "mul": 2,
    "less": 2,
    "join": 2,
    "long": 1,
    "show": 1,
    "swap": 2,
    "drop": 1,
    "if": 1,
}

# The kind that each value which a row takes must have. The rows that are not
# here take values of any kind.
TOLD = {
    "add": "num",
    "mul": "num",
    "less": "num",
    "join": "text",
    "long": "text",
    "show": "num",
    "if": "num",
}


def kind_of(value):
    """The kind of a value."""
    return "text" if isinstance(value, str) else "num"


def kinds_of(stack):
    """The kind of each value of a stack, a tuple."""
    return tuple([kind_of(value) for value in stack])


def wanted(row):
    """How many values a plain row or an if takes from the top of a stack."""
    word = row[0]
    if word == "copy":
        return row[1] + 1
    return WANTED[word]


def check(row, kinds):
    """Refuse a plain row or an if that cannot take values of these kinds.

    The kinds are those of the uppermost values, as many as the row wants, or
    of all values where there are fewer.
    """
    word = row[0]
    if len(kinds) < wanted(row):
        raise Empty(f"{word} wants {wanted(row)} values and there are {len(kinds)}")
    if word not in TOLD:
        return
    for kind in kinds:
        if kind != TOLD[word]:
            raise WrongKind(f"{word} takes values of the kind {TOLD[word]} alone")


def added(taken):
    """The rest of the sum of two numbers."""
    low, high = taken
    return [(low + high) % MODULUS]


def multiplied(taken):
    """The rest of the product of two numbers."""
    low, high = taken
    return [low * high % MODULUS]


def compared(taken):
    """1 where the lower one of two numbers is the lesser one, else 0."""
    low, high = taken
    return [1 if low < high else 0]


def joined(taken):
    """The lower one of two texts, the upper one behind it, as far as a text reaches."""
    low, high = taken
    return [(low + high)[:MOST_SIGNS]]


def measured(taken):
    """How many signs a text has."""
    return [len(taken[0])]


def shown(taken):
    """The figures of a number."""
    return [str(taken[0])]


def swapped(taken):
    """Two values, exchanged."""
    low, high = taken
    return [high, low]


def dropped(taken):
    """Nothing, whatever was taken."""
    return []


def copied(taken):
    """What was taken, and the lowest one of it once more."""
    return taken + taken[:1]


# What stands in the place of the values that a row takes. The rows num and
# text are not here: they put what they themselves hold.
PUT = {
    "add": added,
    "mul": multiplied,
    "less": compared,
    "join": joined,
    "long": measured,
    "show": shown,
    "swap": swapped,
    "drop": dropped,
    "copy": copied,
}


def put_by(row, taken):
    """The values that a plain row puts in the place of those that it takes."""
    word = row[0]
    if word in ("num", "text"):
        return [row[1]]
    put = PUT[word]
    return put(taken)


def do(stack, row):
    """Do a plain row on a stack itself. One that is refused leaves it as it was."""
    place = max(0, len(stack) - wanted(row))
    taken = stack[place:]
    check(row, kinds_of(taken))
    stack[place:] = put_by(row, taken)


def done(stack, row):
    """The stack behind a plain row, another list."""
    other = list(stack)
    do(other, row)
    return other
