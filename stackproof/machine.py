"""Machines: the rows of blocks, done step by step on a stack."""

from stackproof.blocks import block_of
from stackproof.errors import Dry
from stackproof.rows import check, do, kinds_of


class Machine:
    """A block's rows, and those of the blocks that they do, on a stack of its own."""

    def __init__(self, program, name, stack):
        self._program = program
        self.stack = list(stack)
        self.frames = [self._begun(name)]
        self._leave()

    def over(self):
        """Whether no row is left."""
        return len(self.frames) == 0

    def step(self):
        """Do the next row. One that is refused changes nothing."""
        if self.over():
            return
        name, place = self.frames[-1]
        row = block_of(self._program, name)[2][place]
        entered = self._do(row)
        # Not before, because a row that is refused leaves its frame's place as it was.
        self.frames[-1] = (name, place + 1)
        self.frames.extend(entered)
        self._leave()

    def _begun(self, name):
        """The frame of a block of which no row is done. Refuses one that is not there."""
        block_of(self._program, name)
        return (name, 0)

    def _leave(self):
        """Take the frames off that have no row left, from the innermost one on."""
        while self.frames and self._has_ended(self.frames[-1]):
            self.frames.pop()

    def _has_ended(self, frame):
        """Whether a frame's place is behind the last row of its block."""
        name, place = frame
        return place == len(block_of(self._program, name)[2])

    def _do(self, row):
        """Do a row on the stack; the frames that it puts behind the others, a list."""
        word = row[0]
        if word == "call":
            return [self._begun(row[1])]
        if word == "if":
            return [self._chosen(row)]
        do(self.stack, row)
        return []

    def _chosen(self, row):
        """The frame of the block that an if does. Takes the number that tells which."""
        check(row, kinds_of(self.stack[-1:]))
        frame = self._begun(row[1] if self.stack[-1] != 0 else row[2])
        # Not before, because an if that is refused leaves its number.
        self.stack.pop()
        return frame


def run(program, name, stack, fuel):
    """The stack behind a run of at most so many steps."""
    machine = Machine(program, name, stack)
    for _ in range(fuel):
        if machine.over():
            break
        machine.step()
    if not machine.over():
        raise Dry(f"{name} is not over behind {fuel} steps")
    return machine.stack
