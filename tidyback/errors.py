"""The errors that the program raises."""


class TidyError(ValueError):
    """The base class of all errors of the program."""


class ProgramError(TidyError):
    """A text does not tell a program."""

    def __init__(self, line, what):
        super().__init__(f"line {line}: {what}")
        self.line = line
        self.what = what


class TaskError(TidyError):
    """Lists of uses and targets make no task."""

    def __init__(self, what, place):
        super().__init__(f"{what} (place {place})")
        self.what = what
        self.place = place


class PlanError(TidyError):
    """A plan is not valid, or does not solve the task."""

    def __init__(self, what, place):
        super().__init__(f"{what} (place {place})")
        self.what = what
        self.place = place


class CodeError(TidyError):
    """A list is no code for a program, or there are too many inputs to go through."""

    def __init__(self, what, place):
        super().__init__(f"{what} (place {place})")
        self.what = what
        self.place = place


class JoinError(TidyError):
    """Two programs, or plans for them, cannot be joined."""

    def __init__(self, what, place):
        super().__init__(f"{what} (place {place})")
        self.what = what
        self.place = place


class MachineError(TidyError):
    """A machine has no such position."""

    def __init__(self, place):
        super().__init__(f"no position {place}")
        self.place = place


class BenchError(TidyError):
    """A bench refuses a call."""

    def __init__(self, what):
        super().__init__(f"refused: {what}")
        self.what = what
