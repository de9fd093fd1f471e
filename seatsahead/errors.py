"""What the package raises. Each class keeps what it is made with."""


class SeatError(ValueError):
    """What all errors of the package have in common."""


class BadDeed(SeatError):
    """The deed at this place is not possible when it comes."""

    def __init__(self, place):
        self.place = place


class BadLayout(SeatError):
    """The pair at this place can't stand in a layout, or is missing."""

    def __init__(self, place):
        self.place = place


class BadLine(SeatError):
    """The line with this number is not written as it must be."""

    def __init__(self, number):
        self.number = number


class BadPair(SeatError):
    """The pair at this place can't stand in a program."""

    def __init__(self, place):
        self.place = place


class BadText(SeatError):
    """The piece with this number is not written as it must be."""

    def __init__(self, piece):
        self.piece = piece


class Known(SeatError):
    """There is something with this name already."""

    def __init__(self, name):
        self.name = name


class NoNumber(SeatError):
    """There is nothing with this number."""

    def __init__(self, number):
        self.number = number


class NoPlace(SeatError):
    """There is no place, or no moment, with this number."""

    def __init__(self, number):
        self.number = number


class NoProgram(SeatError):
    """There is no program with this name."""

    def __init__(self, name):
        self.name = name


class NoStep(SeatError):
    """There is no step with this name."""

    def __init__(self, name):
        self.name = name


class NothingDone(SeatError):
    """There is no deed that could be undone."""

    def __init__(self):
        pass


class OtherSteps(SeatError):
    """What was handed in belongs to other steps."""

    def __init__(self):
        pass
