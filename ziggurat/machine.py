"""The stack machine, which runs the code of plain programs (ziggurat/compiler.py lists its instructions)."""

from ziggurat.runs import Function, Run


class Frame:
    """The slots of a block that is run, and the frame that is around it."""

    def __init__(self, slots, around):
        self.slots = slots
        self.around = around


class Machine(Run):
    """A run of code, at an index among the instructions of a block, in a frame.

    returns holds triples (instructions, at, frame), where to go on when a block
    has ended; saved the pairs of a switch that is set and its number before.
    """

    def __init__(self, code, fuel):
        Run.__init__(self, fuel)
        self.code = code
        self.instructions = ()
        self.at = 0
        self.frame = None
        self.returns = []
        self.saved = []

    def run_all(self):
        """Run the code up to its end."""
        self.enter(0, None)
        while self.end is None:
            instruction = self.instructions[self.at]
            self.at += 1
            action = ACTIONS[instruction[0]]
            action(self, instruction)

    def enter(self, number, around):
        """Begin a block, in a new frame within the one around it."""
        self.returns.append((self.instructions, self.at, self.frame))
        slots, self.instructions = self.code[number]
        self.at = 0
        self.frame = Frame([0] * slots, around)

    def leave(self):
        """Go on behind the instruction that began a block, or finish the run."""
        self.instructions, self.at, self.frame = self.returns.pop()
        if not self.returns:
            self.finish()

    def apply(self, function, value):
        """Begin the block of a function, with a value in the slot of its argument."""
        self.enter(function.body, function.scope)
        self.frame.slots[0] = value

    def frame_up(self, up):
        """Return the frame that is so many frames up."""
        frame = self.frame
        for _ in range(up):
            frame = frame.around
        return frame


def run_code(code, fuel):
    """Return the run of the code of a plain program: the pair of its outputs and its end."""
    machine = Machine(code, fuel)
    machine.run_all()
    return machine.result()


def _num(machine, instruction):
    machine.stack.append(instruction[1])


def _name(machine, instruction):
    machine.stack.append(machine.frame_up(instruction[1]).slots[instruction[2]])


def _fn(machine, instruction):
    machine.stack.append(Function(instruction[1], instruction[2], machine.frame))


def _operation(machine, instruction):
    machine.operate(instruction[0], instruction[1])


def _if(machine, instruction):
    if machine.decide(instruction[1]) is False:
        machine.at = instruction[2]


def _jump(machine, instruction):
    machine.at = instruction[1]


def _let(machine, instruction):
    machine.frame.slots[instruction[1]] = machine.stack.pop()


def _force(machine, instruction):
    machine.enter(instruction[2], machine.frame_up(instruction[1]))


def _tick(machine, _):
    machine.step()


def _switch(machine, instruction):
    number = machine.settings.get(instruction[1], 0)
    for wanted, target in instruction[2]:
        if wanted == number:
            machine.at = target


def _set(machine, instruction):
    _, switch, number = instruction
    machine.saved.append((switch, machine.settings.get(switch, 0)))
    machine.settings[switch] = number


def _unset(machine, _):
    switch, number = machine.saved.pop()
    machine.settings[switch] = number


def _put(machine, instruction):
    machine.set_on(instruction[1], instruction[2])


def _return(machine, _):
    machine.leave()


ACTIONS = {
    "num": _num,
    "name": _name,
    "fn": _fn,
    "call": _operation,
    "sum": _operation,
    "less": _operation,
    "say": _operation,
    "if": _if,
    "jump": _jump,
    "let": _let,
    "force": _force,
    "tick": _tick,
    "switch": _switch,
    "set": _set,
    "unset": _unset,
    "put": _put,
    "return": _return,
}
