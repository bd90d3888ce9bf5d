"""All errors that the program raises, each below the one class it is derived from."""


class ShapeError(ValueError):
    """A value is not of the shape that is asked for."""


class InvalidPlaces(ShapeError):
    def __init__(self, value):
        super().__init__("these are no places of a web")
        self.value = value


class InvalidTies(ShapeError):
    def __init__(self, index):
        super().__init__("these are no ties of a web")
        self.index = index


class InvalidText(ShapeError):
    def __init__(self, value):
        super().__init__("this is no text of a web")
        self.value = value


class InvalidLot(ShapeError):
    def __init__(self, index):
        super().__init__("this is no lot of ties")
        self.index = index


class InvalidIndex(ShapeError):
    def __init__(self, value):
        super().__init__("this is no index")
        self.value = value


class InvalidLetters(ShapeError):
    def __init__(self, value):
        super().__init__("these are no letters for the places")
        self.value = value


class InvalidNumber(ShapeError):
    def __init__(self, value):
        super().__init__("this is no number that may stand here")
        self.value = value


class InvalidFraction(ShapeError):
    def __init__(self, value):
        super().__init__("this is no fraction that may be passed")
        self.value = value


class InvalidWord(ShapeError):
    def __init__(self, value):
        super().__init__("this is none of the words")
        self.value = value


class InvalidLeaning(ShapeError):
    def __init__(self, value):
        super().__init__("this is no leaning of the web")
        self.value = value


class InvalidRow(ShapeError):
    def __init__(self, index):
        super().__init__("this is no row of numbers for the places")
        self.index = index


class InvalidDye(ShapeError):
    def __init__(self, value):
        super().__init__("this is no dye that may be passed")
        self.value = value


class InvalidValues(ShapeError):
    def __init__(self, index):
        super().__init__("these are no fractions for the ties")
        self.index = index


class InvalidBounds(ShapeError):
    def __init__(self, index):
        super().__init__("these are no bounds for the ties")
        self.index = index


class InvalidLengths(ShapeError):
    def __init__(self, index):
        super().__init__("these are no lengths for the ties")
        self.index = index


class InvalidRooms(ShapeError):
    def __init__(self, index):
        super().__init__("these are no rooms for the ties")
        self.index = index


class InvalidHeap(ShapeError):
    def __init__(self, index):
        super().__init__("this is no heap for the places")
        self.index = index


class InvalidLooks(ShapeError):
    def __init__(self, index):
        super().__init__("these are no looks")
        self.index = index


class InvalidOffers(ShapeError):
    def __init__(self, index):
        super().__init__("these are no offers")
        self.index = index


class InvalidDeeds(ShapeError):
    def __init__(self, index):
        super().__init__("these are no deeds")
        self.index = index


class InvalidName(ShapeError):
    def __init__(self, value):
        super().__init__("this is no name")
        self.value = value


class InvalidWish(ShapeError):
    def __init__(self, value):
        super().__init__("this is no wish")
        self.value = value


class InvalidLine(ShapeError):
    def __init__(self, value):
        super().__init__("this is no line")
        self.value = value


class NotAWeb(ShapeError):
    def __init__(self, value):
        super().__init__("this is no web")
        self.value = value


class QuestionError(LookupError):
    """A question has no answer."""


class UnknownPlace(QuestionError):
    def __init__(self, value):
        super().__init__("the web has no such place")
        self.value = value


class UnknownName(QuestionError):
    def __init__(self, value):
        super().__init__("the shelf has no such name")
        self.value = value


class NotATree(QuestionError):
    def __init__(self, value):
        super().__init__("this lot is no tree")
        self.value = value


class Refused(QuestionError):
    def __init__(self, value):
        super().__init__("this cannot be done with what is passed")
        self.value = value


class Apart(QuestionError):
    def __init__(self):
        super().__init__("the web is not whole")


class Looped(QuestionError):
    def __init__(self):
        super().__init__("the web has a loop")


class NoFit(QuestionError):
    def __init__(self):
        super().__init__("no filling fits the looks")


class Busy(QuestionError):
    def __init__(self):
        super().__init__("the board is at work")


class NothingToUndo(QuestionError):
    def __init__(self):
        super().__init__("no deed can be taken back")


class Broken(QuestionError):
    def __init__(self, index):
        super().__init__("a wish would not hold")
        self.index = index


class InUse(QuestionError):
    def __init__(self, index):
        super().__init__("a wish has this name")
        self.index = index


class SizeError(ArithmeticError):
    """A limit is passed."""


class TooMany(SizeError):
    def __init__(self, limit):
        super().__init__("a limit is passed")
        self.limit = limit
