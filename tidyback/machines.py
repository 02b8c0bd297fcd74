"""Machines that run code forward and back."""

from tidyback.code import inverted, run, traced
from tidyback.errors import MachineError
from tidyback.limits import REGISTERS


class Machine:
    """Code of a program with inputs, and how far it was run."""

    def __init__(self, program, code, inputs):
        self._program = program
        self._code = list(code)
        self._inputs = list(inputs)
        self._position = 0
        self._registers = [0] * REGISTERS

    @property
    def position(self):
        """The number of instructions that were run and not taken back."""
        return self._position

    @property
    def registers(self):
        """The contents of the registers, a new list."""
        return list(self._registers)

    def forward(self):
        """Run the next instruction and return it, or return None if there is none."""
        if self._position == len(self._code):
            return None
        instruction = self._code[self._position]
        self._registers = run(self._program, [instruction], self._inputs, self._registers)
        self._position += 1
        return instruction

    def backward(self):
        """Take back the last instruction and return it, or return None if there is none."""
        if self._position == 0:
            return None
        self._position -= 1
        instruction = self._code[self._position]
        self._registers = run(self._program, inverted([instruction]), self._inputs, self._registers)
        return instruction

    def move_to(self, position):
        """Go to a position, and return by how many instructions. Raise MachineError."""
        check_position(position, len(self._code))
        many = abs(position - self._position)
        while self._position < position:
            self.forward()
        while self._position > position:
            self.backward()
        return many

    def states(self):
        """Return the list of the contents of the registers from the present position to the last one."""
        return traced(self._program, self._code, self._inputs)[self._position:]

    def __len__(self):
        return len(self._code)

    def __iter__(self):
        return iter(self._code)

    def __getitem__(self, at):
        check_position(at, len(self._code))
        return run(self._program, self._code[:at], self._inputs, [0] * REGISTERS)

    def __eq__(self, other):
        if not isinstance(other, Machine):
            return NotImplemented
        return (
            self._program == other._program and self._code == other._code
            and self._inputs == other._inputs and self._position == other._position)


def check_position(position, last):
    """Raise MachineError for what is no position from 0 to the last one."""
    if not 0 <= position <= last:
        raise MachineError(position)
