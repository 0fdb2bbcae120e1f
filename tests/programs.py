"""Programs that several of the tests look at."""

import random

NUM = "num"
TEXT = "text"
LESS_ONE = 999999999  # added to a number above 0, it leaves one less

PLAIN = (
    ("num", 5), ("text", "ab"), ("add",), ("mul",), ("less",), ("join",), ("long",), ("show",),
    ("swap",), ("drop",), ("copy", 0), ("copy", 1), ("copy", 2), ("copy", 60),
)

# The sum of the numbers up to one, by a block that comes to itself.
SUM = {
    "sum": ((NUM,), (NUM,), [("copy", 0), ("if", "more", "same")]),
    "more": ((NUM,), (NUM,), [("copy", 0), ("num", LESS_ONE), ("add",), ("call", "sum"), ("add",)]),
    "same": ((NUM,), (NUM,), []),
}

# Down to 0, each call the last row of its block: all frames end at one step.
DOWN = {
    "down": ((NUM,), (), [("copy", 0), ("if", "again", "gone")]),
    "again": ((NUM,), (), [("num", LESS_ONE), ("add",), ("call", "down")]),
    "gone": ((NUM,), (), [("drop",)]),
}

# Whether a number is even, by two blocks that come to each other.
EVEN = {
    "even": ((NUM,), (TEXT,), [("copy", 0), ("if", "odd less one", "is even")]),
    "odd": ((NUM,), (TEXT,), [("copy", 0), ("if", "even less one", "is odd")]),
    "even less one": ((NUM,), (TEXT,), [("num", LESS_ONE), ("add",), ("call", "even")]),
    "odd less one": ((NUM,), (TEXT,), [("num", LESS_ONE), ("add",), ("call", "odd")]),
    "is even": ((NUM,), (TEXT,), [("drop",), ("text", "even")]),
    "is odd": ((NUM,), (TEXT,), [("drop",), ("text", "odd")]),
}

# A text, and how many signs it has or a word for none. No block comes to itself.
TELL = {
    "tell": ((TEXT,), (TEXT,), [
        ("copy", 0), ("long",), ("copy", 0), ("if", "count", "none"), ("join",),
    ]),
    "count": ((NUM,), (TEXT,), [("show",), ("text", " signs"), ("call", "pair")]),
    "none": ((NUM,), (TEXT,), [("drop",), ("text", "nothing")]),
    "pair": ((TEXT, TEXT), (TEXT,), [("text", ": "), ("swap",), ("call", "flat"), ("join",), ("join",)]),
    "flat": ((), (), []),
}

# Each plain row once, on values that are left as they came.
EACH = {
    "each": ((TEXT, NUM), (NUM, TEXT), [
        ("copy", 0), ("num", 7), ("add",), ("num", 3), ("mul",), ("copy", 1), ("less",), ("drop",),
        ("copy", 1), ("text", "z"), ("join",), ("long",), ("show",), ("drop",), ("swap",),
    ]),
}

LET_BY = (
    (SUM, "sum", [[0], [1], [7], [40]]),
    (DOWN, "down", [[0], [1], [30]]),
    (EVEN, "even", [[0], [1], [8], [9]]),
    (TELL, "tell", [[""], ["abc"], ["x" * 60]]),
    (EACH, "each", [["", 0], ["abc", 12], ["x" * 60, LESS_ONE]]),
)


def chain(many, times=1):
    """Blocks 0 to many - 1, each of which calls the next one so many times; the last one adds 1."""
    program = {str(many - 1): ((NUM,), (NUM,), [("num", 1), ("add",)])}
    for at in range(many - 1):
        program[str(at)] = ((NUM,), (NUM,), [("call", str(at + 1))] * times)
    return program


def circle(many):
    """Blocks 0 to many - 1, each of which calls the next one, and the last one the first."""
    return {str(at): ((), (), [("call", str((at + 1) % many))]) for at in range(many)}


def some_kinds(chance, most):
    return tuple(chance.choice((NUM, TEXT)) for _ in range(chance.randint(0, most)))


def ways_on(program, kinds):
    """The calls and ifs that can stand behind these kinds, and what is behind each of them."""
    found = []
    for name, (ins, outs, _) in program.items():
        at = len(kinds) - len(ins)
        if at >= 0 and kinds[at:] == ins:
            found.append((("call", name), kinds[:at] + outs))
    below = kinds[:-1]
    for yes, (ins, outs, _) in program.items():
        at = len(below) - len(ins)
        if kinds[-1:] == (NUM,) and at >= 0 and below[at:] == ins:
            for no, (other_ins, other_outs, _) in program.items():
                if (ins, outs) == (other_ins, other_outs):
                    found.append((("if", yes, no), below[:at] + outs))
    return found


def plain_ways_on(chance, kinds):
    """Plain rows that can stand behind these kinds, and what is behind each of them."""
    found = [(("num", chance.randint(0, 2)), kinds + (NUM,)), (("text", "a"), kinds + (TEXT,))]
    if kinds:
        at = chance.randrange(len(kinds))
        found.append((("copy", at), kinds + (kinds[-1 - at],)))
        found.append((("drop",), kinds[:-1]))
    if kinds[-1:] == (TEXT,):
        found.append((("long",), kinds[:-1] + (NUM,)))
    if kinds[-1:] == (NUM,):
        found.append((("show",), kinds[:-1] + (TEXT,)))
    if len(kinds) > 1:
        found.append((("swap",), kinds[:-2] + (kinds[-1], kinds[-2])))
    if kinds[-2:] == (NUM, NUM):
        word = chance.choice(("add", "mul", "less"))
        found.append(((word,), kinds[:-2] + (NUM,)))
    if kinds[-2:] == (TEXT, TEXT):
        found.append((("join",), kinds[:-2] + (TEXT,)))
    return found


def some_rows(chance, program, ins, outs, many):
    """Rows that lead from ins to outs, and at which places kinds stand ahead of them."""
    kinds = ins
    rows = []
    for _ in range(many):
        ways = ways_on(program, kinds) if chance.random() < 0.4 else []
        row, kinds = chance.choice(ways or plain_ways_on(chance, kinds))
        rows.append(row)
    rows += [("drop",)] * len(kinds)
    return rows + [("num", 1) if kind == NUM else ("text", "b") for kind in outs]


def some_program(seed, blocks=6, rows=7, back=True):
    """A program by a seed. All its blocks are let by; where back is false none comes to itself."""
    chance = random.Random(seed)
    told = [(some_kinds(chance, 2), some_kinds(chance, 2)) for _ in range(3)]
    heads = {str(at): chance.choice(told) + ([],) for at in range(blocks)}
    program = {}
    for name, (ins, outs, _) in heads.items():
        known = heads if back else program
        program[name] = (ins, outs, some_rows(chance, known, ins, outs, chance.randint(0, rows)))
    return program


def some_values(kinds, number=3, text="in"):
    return [number if kind == NUM else text for kind in kinds]
