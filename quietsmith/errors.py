"""The errors that the package raises."""


class QuietError(ValueError):
    """Stands above all other errors of the package."""


class BadProgram(QuietError):
    """A program has not the form of a program, or breaks a rule."""

    def __init__(self, reason):
        super().__init__(f"bad program: {reason}")
        self.reason = reason


class BadText(QuietError):
    """A text cannot be read; the index tells where."""

    def __init__(self, index):
        super().__init__(f"bad text at index {index}")
        self.index = index


class BadInput(QuietError):
    """The inputs do not fit what is to be run."""

    def __init__(self):
        super().__init__("bad input")


class BadCode(QuietError):
    """Code, or its certificate, breaks a rule."""

    def __init__(self, index, reason):
        super().__init__(f"bad code at {index}: {reason}")
        self.index = index
        self.reason = reason


class BadRun(QuietError):
    """A machine cannot make a step."""

    def __init__(self, reason):
        super().__init__(f"bad run: {reason}")
        self.reason = reason


class BadScript(QuietError):
    """A line of a script fails."""

    def __init__(self, line, reason):
        super().__init__(f"bad script at line {line}: {reason}")
        self.line = line
        self.reason = reason
