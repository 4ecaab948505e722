"""The errors that the package raises, one class for each kind of failure."""


class SideweaveError(ValueError):
    """Any failure that the package tells of."""


class NoTerm(SideweaveError):
    """What should be a term is none."""


class NoKernel(SideweaveError):
    """What should be a kernel is none."""


class NoLaunch(SideweaveError):
    """What should be registers, a launch or launches is not."""


class NoWeave(SideweaveError):
    """What should be a weave is none."""


class NoCode(SideweaveError):
    """What should be a code is none."""


class NoTraces(SideweaveError):
    """What should be traces is not."""


class NoBodies(SideweaveError):
    """What should be bodies, or names for them, is not."""


class TooMany(SideweaveError):
    """There are more states, places or pairs than are looked at."""


class Full(SideweaveError):
    """There is no room for one more launch."""


class NoNumber(SideweaveError):
    """There is no lane, mark or launch with this number."""


class NoPass(SideweaveError):
    """There is no pass with this name."""


class NoUndo(SideweaveError):
    """There is nothing to undo."""


class TooLong(SideweaveError):
    """A lane is long, or a code goes on for too long (then the lane is None)."""

    def __init__(self, lane):
        super().__init__(f"too long: lane {lane}")
        self.lane = lane


class NoText(SideweaveError):
    """What should be the text of a kernel goes wrong in this line."""

    def __init__(self, line):
        super().__init__(f"no text of a kernel: line {line}")
        self.line = line
