"""Compiling plain programs to code for the stack machine.

The body of each function, and each delayed expression, is a block of its own;
the block 0 is the program. A block has a slot for its argument, if it has one,
and one for each let in it; no slot is used twice, for functions keep the frames
in which they are made. The instructions of a block leave one value on the
stack. Where they name a slot or a block they count how many frames up it is.

The instructions:

- ("num", n): push n.
- ("name", up, slot): push what a slot holds.
- ("unbound",): a name that leads to nothing; it is never met.
- ("fn", level, block): push a function.
- ("call", level), ("sum", level), ("less", level), ("say", level): do the operation.
- ("if", level, target): pop a value, and jump if it is 0.
- ("jump", target): go on at another instruction of the block.
- ("let", slot): pop a value, and put it into a slot.
- ("force", up, block): push what a block leaves, run within the frame so many up.
- ("tick",): take a step.
- ("switch", s, ((number, target), ..)): jump if the switch has one of these numbers.
- ("set", s, number), ("unset",): set a switch, and set the one back that has been set last.
- ("put", s, number): set a switch, and push 0.
- ("return",): the end of the block.
"""

from ziggurat.linking import link


class Block:
    """A block that is compiled: the node of its expression, and how many blocks are around it."""

    def __init__(self, node, depth, slots):
        self.node = node
        self.depth = depth
        self.slots = slots
        self.instructions = []

    def take_slot(self):
        """Return a slot that is not used."""
        self.slots += 1
        return self.slots - 1

    def emit(self, instruction):
        """Append an instruction, and return its index."""
        self.instructions.append(instruction)
        return len(self.instructions) - 1

    def here(self):
        """Return the index of the next instruction."""
        return len(self.instructions)


class Compiler:
    """Compiles the blocks of a plain program, each after the block that is around it.

    places has, by the numbers of nodes, where what they bind or delay is found:
    pairs of the number of blocks around it and a slot, or a block. todo holds
    pairs (word, thing), the next one last; ("visit", node) is the compilation
    of an expression of the current block.
    """

    def __init__(self, top):
        self.blocks = [Block(top, 0, 0)]
        self.block = self.blocks[0]
        self.places = {}
        self.todo = []

    def compile_all(self):
        """Return the code of the whole program."""
        done = 0
        while done < len(self.blocks):
            self.compile_block(self.blocks[done])
            done += 1
        return tuple([(block.slots, tuple(block.instructions)) for block in self.blocks])

    def compile_block(self, block):
        """Write the instructions of a block."""
        self.block = block
        self.visit(block.node)
        while self.todo:
            word, thing = self.todo.pop()
            action = ACTIONS[word]
            action(self, thing)
        block.emit(("return",))

    def visit(self, node):
        """Have an expression compiled before all else that is still to do."""
        self.todo.append(("visit", node))

    def visit_then(self, nodes, word, thing):
        """Have expressions compiled one after the other, and then something done."""
        self.todo.append((word, thing))
        for node in reversed(nodes):
            self.visit(node)

    def open_block(self, node, slots):
        """Return the number of a new block within the current one."""
        self.blocks.append(Block(node, self.block.depth + 1, slots))
        return len(self.blocks) - 1

    def emit_found(self, word, node):
        """Emit an instruction about what a node leads to."""
        if node.target is None:
            self.block.emit(("unbound",))
        else:
            depth, place = self.places[node.target.number]
            self.block.emit((word, self.block.depth - depth, place))


def compile_plain(plain):
    """Return the code of a plain program: a tuple of blocks, pairs of a number of slots and a tuple of instructions."""
    return Compiler(link(plain)).compile_all()


def _visit(compiler, node):
    action = FORMS[node.word]
    action(compiler, node)


def _emit(compiler, instruction):
    compiler.block.emit(instruction)


def _num(compiler, node):
    compiler.block.emit(("num", node.plain[1]))


def _name(compiler, node):
    compiler.emit_found("name", node)


def _fn(compiler, node):
    compiler.places[node.number] = (compiler.block.depth + 1, 0)
    number = compiler.open_block(node.inner[0], 1)
    compiler.block.emit(("fn", node.plain[1], number))


def _operation(compiler, node):
    compiler.visit_then(node.inner, "emit", (node.word, node.plain[1]))


def _if(compiler, node):
    compiler.visit_then(node.inner[:1], "decide", node)


def _decide(compiler, node):
    """Go on with an if when its condition is compiled; where to jump is filled in later."""
    at = compiler.block.emit(())
    compiler.visit_then(node.inner[1:2], "otherwise", (at, node))


def _otherwise(compiler, thing):
    """Go on with an if when its first branch is compiled."""
    at, node = thing
    end = compiler.block.emit(())
    compiler.block.instructions[at] = ("if", node.plain[1], compiler.block.here())
    compiler.visit_then(node.inner[2:], "land", [end])


def _land(compiler, ends):
    """Have the instructions at the ends of branches jump to what follows."""
    for end in ends:
        compiler.block.instructions[end] = ("jump", compiler.block.here())


def _let(compiler, node):
    compiler.visit_then(node.inner[:1], "bind", node)


def _bind(compiler, node):
    """Go on with a let when its part is compiled."""
    slot = compiler.block.take_slot()
    compiler.places[node.number] = (compiler.block.depth, slot)
    compiler.block.emit(("let", slot))
    compiler.visit(node.inner[1])


def _delay(compiler, node):
    compiler.places[node.number] = (compiler.block.depth, compiler.open_block(node.inner[0], 0))
    compiler.visit(node.inner[1])


def _force(compiler, node):
    compiler.emit_found("force", node)


def _tick(compiler, node):
    compiler.block.emit(("tick",))
    compiler.visit(node.inner[0])


def _switch(compiler, node):
    """Compile the last part of a switch, to which no number leads, and then the branches."""
    at = compiler.block.emit(())
    compiler.visit_then(node.inner[-1:], "branch", (at, node, [], []))


def _branch(compiler, thing):
    """Go on with a switch when its last part or a branch is compiled, with the indexes of branches and ends so far."""
    at, node, starts, ends = thing
    if len(starts) == len(node.plain[2]):
        row = tuple([(number, start) for (number, _), start in zip(node.plain[2], starts)])
        compiler.block.instructions[at] = ("switch", node.plain[1], row)
        _land(compiler, ends)
        return
    ends.append(compiler.block.emit(()))
    starts.append(compiler.block.here())
    compiler.visit_then(node.inner[len(starts) - 1:len(starts)], "branch", thing)


def _set(compiler, node):
    compiler.block.emit(("set", node.plain[1], node.plain[2]))
    compiler.visit_then(node.inner, "emit", ("unset",))


def _put(compiler, node):
    compiler.block.emit(("put", node.plain[1], node.plain[2]))


FORMS = {
    "num": _num,
    "name": _name,
    "fn": _fn,
    "call": _operation,
    "sum": _operation,
    "less": _operation,
    "if": _if,
    "let": _let,
    "say": _operation,
    "delay": _delay,
    "force": _force,
    "tick": _tick,
    "switch": _switch,
    "set": _set,
    "put": _put,
}

ACTIONS = {
    "visit": _visit,
    "emit": _emit,
    "decide": _decide,
    "otherwise": _otherwise,
    "land": _land,
    "bind": _bind,
    "branch": _branch,
}
