"""The errors that the other modules raise."""


class ShapeError(ValueError):
    """A value is not of the shape that is asked for."""


class InvalidRow(ShapeError):
    def __init__(self, value):
        super().__init__("no arch row")
        self.value = value


class InvalidFoot(ShapeError):
    def __init__(self, value):
        super().__init__("no foot of the row")
        self.value = value


class InvalidNumber(ShapeError):
    def __init__(self, value):
        super().__init__("no number that is let in")
        self.value = value


class InvalidPath(ShapeError):
    def __init__(self, index):
        super().__init__("no candidate for a path")
        self.index = index


class InvalidHooks(ShapeError):
    def __init__(self, index):
        super().__init__("no tuple of hooks")
        self.index = index


class InvalidLayers(ShapeError):
    def __init__(self, index):
        super().__init__("no layers")
        self.index = index


class InvalidMarks(ShapeError):
    def __init__(self, value):
        super().__init__("no marks")
        self.value = value


class InvalidLengths(ShapeError):
    def __init__(self, index):
        super().__init__("no lengths")
        self.index = index


class InvalidWays(ShapeError):
    def __init__(self, value):
        super().__init__("no ways")
        self.value = value


class InvalidPlace(ShapeError):
    def __init__(self, value):
        super().__init__("no place")
        self.value = value


class InvalidCourse(ShapeError):
    def __init__(self, value):
        super().__init__("no course")
        self.value = value


class InvalidLoop(ShapeError):
    def __init__(self, value):
        super().__init__("no loop")
        self.value = value


class InvalidFraction(ShapeError):
    def __init__(self, value):
        super().__init__("no fraction that is let in")
        self.value = value


class InvalidShuffle(ShapeError):
    def __init__(self, value):
        super().__init__("no shuffle")
        self.value = value


class InvalidClues(ShapeError):
    def __init__(self, value):
        super().__init__("no clues")
        self.value = value


class InvalidPairs(ShapeError):
    def __init__(self, index):
        super().__init__("no tuple of pairs")
        self.index = index


class InvalidSpots(ShapeError):
    def __init__(self, index):
        super().__init__("no tuple of spots")
        self.index = index


class InvalidDeeds(ShapeError):
    def __init__(self, index):
        super().__init__("no tuple of deeds")
        self.index = index


class InvalidIndex(ShapeError):
    def __init__(self, value):
        super().__init__("no index that is let in")
        self.value = value


class InvalidName(ShapeError):
    def __init__(self, value):
        super().__init__("no name")
        self.value = value


class InvalidWish(ShapeError):
    def __init__(self, value):
        super().__init__("no wish")
        self.value = value


class InvalidLine(ShapeError):
    def __init__(self, value):
        super().__init__("no line")
        self.value = value


class QuestionError(LookupError):
    """A question has no answer."""


class Unlike(QuestionError):
    def __init__(self, value):
        super().__init__("the numbers of arches are not the same")
        self.value = value


class Refused(QuestionError):
    def __init__(self, value):
        super().__init__("this cannot be done")
        self.value = value


class NotARound(QuestionError):
    def __init__(self, value):
        super().__init__("no round of raisins")
        self.value = value


class UnknownName(QuestionError):
    def __init__(self, value):
        super().__init__("nothing has this name")
        self.value = value


class NoFit(QuestionError):
    """No folding fits."""

    def __init__(self):
        super().__init__()


class Busy(QuestionError):
    """The board is busy."""

    def __init__(self):
        super().__init__()


class NothingToUndo(QuestionError):
    """There is nothing to undo."""

    def __init__(self):
        super().__init__()


class Broken(QuestionError):
    def __init__(self, index):
        super().__init__("a wish would not hold")
        self.index = index


class InUse(QuestionError):
    def __init__(self, index):
        super().__init__("a wish has this name")
        self.index = index


class SizeError(ArithmeticError):
    """A limit is passed."""


class TooMany(SizeError):
    def __init__(self, limit):
        super().__init__("a limit is passed")
        self.limit = limit
