"""The exceptions of the package."""


class HaulError(ValueError):
    """The base class of all exceptions of the package."""


class InvalidFleet(HaulError):
    """A fleet is invalid: its part is "fleet", "count" or "ropes"."""

    def __init__(self, part, index):
        super().__init__(f"invalid fleet: {part} {index}")
        self.part = part
        self.index = index


class InvalidRope(HaulError):
    """A value is not a rope between barges of the fleet."""


class InvalidBarge(HaulError):
    """A value is not a barge of the fleet."""


class Contradictory(HaulError):
    """A fleet has a circle of negative length."""


class InvalidPositions(HaulError):
    """An item of positions is invalid, missing or superfluous."""

    def __init__(self, index):
        super().__init__(f"invalid positions: item {index}")
        self.index = index


class BrokenRope(HaulError):
    """Positions do not satisfy a rope."""

    def __init__(self, index):
        super().__init__(f"broken rope: {index}")
        self.index = index


class InvalidWishes(HaulError):
    """An entry of wishes or limits is invalid, missing or superfluous."""

    def __init__(self, index):
        super().__init__(f"invalid wishes: entry {index}")
        self.index = index


class InvalidGoal(HaulError):
    """The goal of a barge is less than its position."""

    def __init__(self, barge):
        super().__init__(f"invalid goal: barge {barge}")
        self.barge = barge


class InvalidHaul(HaulError):
    """A haul is invalid at its moment."""

    def __init__(self, index):
        super().__init__(f"invalid haul: {index}")
        self.index = index


class InvalidCrew(HaulError):
    """An item of a crew is not a barge or not greater than the item before it."""

    def __init__(self, index):
        super().__init__(f"invalid crew: item {index}")
        self.index = index


class CrewTooSmall(HaulError):
    """A crew can haul no barge of a source knot."""

    def __init__(self, knot):
        super().__init__(f"crew too small: knot {knot}")
        self.knot = knot


class InvalidCertificate(HaulError):
    """An item of a certificate is not an entry."""

    def __init__(self, index):
        super().__init__(f"invalid certificate: item {index}")
        self.index = index


class InvalidLimit(HaulError):
    """The positions up to a limit cannot be counted."""


class UnknownRope(HaulError):
    """A harbor has no rope with an index."""


class InvalidOperation(HaulError):
    """An item is not an operation, or an operation fails."""

    def __init__(self, index):
        super().__init__(f"invalid operation: {index}")
        self.index = index


class InvalidName(HaulError):
    """A value is not the name of a checkpoint."""


class UnknownCheckpoint(HaulError):
    """Nothing is saved under a name."""


class ScriptError(HaulError):
    """A row of a script is invalid."""

    def __init__(self, row):
        super().__init__(f"script error: row {row}")
        self.row = row


class ExecutionFailed(HaulError):
    """A statement of a script cannot be executed."""

    def __init__(self, row):
        super().__init__(f"execution failed: row {row}")
        self.row = row


class StepLimitExceeded(HaulError):
    """A script takes too many steps."""


class NotationError(HaulError):
    """A word of a text is wrong."""

    def __init__(self, row, word):
        super().__init__(f"notation error: row {row}, word {word}")
        self.row = row
        self.word = word


class InvalidCount(HaulError):
    """Values are no bytes, or there are too many hauls to encode."""


class DecodeError(HaulError):
    """A byte is invalid or missing."""

    def __init__(self, offset):
        super().__init__(f"decode error: offset {offset}")
        self.offset = offset
