"""What is refused, one class for each kind of refusal."""


class SeamError(ValueError):
    """Any refusal."""


class BadBoard(SeamError):
    """The board is no pair of whole numbers from 2 to 5."""


class BadFlips(SeamError):
    """No edge that can be there is at this place of the flips."""

    def __init__(self, place):
        SeamError.__init__(self, f"these flips can't be, from place {place} on")
        self.place = place


class BadLit(SeamError):
    """No site that can be there is at this place of the sites."""

    def __init__(self, place):
        SeamError.__init__(self, f"these sites can't be, from place {place} on")
        self.place = place


class BadFaces(SeamError):
    """No face that can be there is at this place of the faces."""

    def __init__(self, place):
        SeamError.__init__(self, f"these faces can't be, from place {place} on")
        self.place = place


class BadCosts(SeamError):
    """No cost that can be there is at this place of the costs."""

    def __init__(self, place):
        SeamError.__init__(self, f"these costs can't be, from place {place} on")
        self.place = place


class BadTold(SeamError):
    """The beat of this number can't be."""

    def __init__(self, number):
        SeamError.__init__(self, f"these beats can't be, from number {number} on")
        self.number = number


class BadStory(SeamError):
    """The pair of the beat of this number can't be."""

    def __init__(self, number):
        SeamError.__init__(self, f"this story can't be, from number {number} on")
        self.number = number


class BadCount(SeamError):
    """What a flip or a lie costs is no whole number from 1 to 9."""


class Odd(SeamError):
    """The count of the sites is odd."""


class TooMany(SeamError):
    """There is more than an answer is promised for."""


class BadName(SeamError):
    """The name is not one to eight letters a to z."""


class NoPoint(SeamError):
    """Nothing was marked by this name."""


class BadText(SeamError):
    """This row of the drawing can't be."""

    def __init__(self, row):
        SeamError.__init__(self, f"this drawing can't be, from row {row} on")
        self.row = row
