"""Benches on which a plan is made move by move."""

from tidyback.errors import BenchError
from tidyback.limits import ENTRIES, STEPS
from tidyback.lists import are_ascending_steps, is_whole
from tidyback.planning import shortest_plan
from tidyback.tasks import fault_of_move, moved


class Bench:
    """A task, a number of registers, a configuration, and a log of what was done."""

    def __init__(self, task, registers):
        self._task = task
        self._registers = registers
        self._configuration = ()
        self._log = []
        # For each entry of the log, the task, registers and configuration ahead of it.
        self._before = []

    @property
    def task(self):
        """The task that is worked on."""
        return self._task

    @property
    def registers(self):
        """The number of registers."""
        return self._registers

    @property
    def configuration(self):
        """The tuple of the steps that are held."""
        return self._configuration

    @property
    def log(self):
        """The entries of the log, a new list."""
        return list(self._log)

    def toggle(self, step):
        """Add a step or remove it, and return the configuration behind it. Raise BenchError."""
        fault = fault_of_move(self._task, self._registers, self._configuration, step)
        if fault is not None:
            raise BenchError(fault)
        self._enter("toggle", step)
        self._configuration = moved(self._configuration, step)
        return self._configuration

    def add_step(self, uses):
        """Put a step that uses these behind those of the task, and return its number. Raise BenchError."""
        steps, targets = self._task
        if len(steps) >= STEPS:
            raise BenchError("too many steps")
        if not are_ascending_steps(uses, len(steps)):
            raise BenchError("wrong use")
        self._enter("add_step", tuple(uses))
        self._task = ((*steps, tuple(uses)), targets)
        return len(steps)

    def set_targets(self, targets):
        """Replace the targets. Raise BenchError."""
        steps, _ = self._task
        if not targets or not are_ascending_steps(targets, len(steps)):
            raise BenchError("wrong targets")
        self._enter("set_targets", tuple(targets))
        self._task = (steps, tuple(targets))

    def set_registers(self, registers):
        """Replace the number of registers. Raise BenchError."""
        if len(self._configuration) > registers:
            raise BenchError("too many registers")
        self._enter("set_registers", registers)
        self._registers = registers

    def _enter(self, name, argument):
        """Append an entry to the log, and keep what the bench is ahead of it. Raise BenchError."""
        if len(self._log) >= ENTRIES:
            raise BenchError("log is full")
        self._log.append((name, argument))
        self._before.append((self._task, self._registers, self._configuration))

    def way(self):
        """Return the shortest plan from the configuration to the targets, or None."""
        return shortest_plan(self._task, self._registers, start=self._configuration)

    def remaining(self):
        """Return the number of moves of the way, or None."""
        moves = self.way()
        return None if moves is None else len(moves)

    def hint(self):
        """Return the first move of the way, or None if there is no way or nothing to do."""
        moves = self.way()
        return moves[0] if moves else None

    def undo(self):
        """Take back the last entry of the log and return True, or return False if there is none."""
        if not self._log:
            return False
        self._log.pop()
        self._task, self._registers, self._configuration = self._before.pop()
        return True

    def replay(self, entries):
        """Make the calls that entries tell up to the first one that is refused, and return how many."""
        for at, (name, argument) in enumerate(entries):
            try:
                self._make(name, argument)
            except BenchError:
                return at
        return len(entries)

    def _make(self, name, argument):
        """Make the call that an entry tells. Raise BenchError."""
        if name == "toggle":
            self.toggle(argument)
        elif name == "add_step":
            self.add_step(list(argument))
        elif name == "set_targets":
            self.set_targets(list(argument))
        else:
            self.set_registers(argument)

    def branch(self):
        """Return a new bench that is like this one, also in its log."""
        other = Bench(self._task, self._registers)
        other._configuration = self._configuration
        other._log = list(self._log)
        other._before = list(self._before)
        return other

    def __len__(self):
        return len(self._log)

    def __contains__(self, x):
        return is_whole(x) and x in self._configuration

    def __iter__(self):
        return iter(self._configuration)

    def __eq__(self, other):
        if not isinstance(other, Bench):
            return NotImplemented
        return (
            self._task == other._task and self._registers == other._registers
            and self._configuration == other._configuration)
