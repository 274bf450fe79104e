"""The errors of the package. Each keeps what it was made with, the very object."""


class RoundError(ValueError):
    """Stands above all errors of the package and is never raised itself."""


class InvalidNumber(RoundError):
    """Not a number as it is asked for."""

    def __init__(self, value):
        super().__init__("this is not a number that may stand here")
        self.value = value


class InvalidPairs(RoundError):
    """Not pairs of players as they are asked for."""

    def __init__(self, value):
        super().__init__("these are not pairs that may stand here")
        self.value = value


class InvalidStays(RoundError):
    """Not the stays of all players."""

    def __init__(self, value):
        super().__init__("these are not the stays of all players")
        self.value = value


class InvalidRounds(RoundError):
    """Not rounds, or rounds that do not fit."""

    def __init__(self, value):
        super().__init__("these are not rounds that fit")
        self.value = value


class InvalidRound(RoundError):
    """Not a round as it is asked for."""

    def __init__(self, value):
        super().__init__("this is not a round that may stand here")
        self.value = value


class InvalidTarget(RoundError):
    """Not a row of final points."""

    def __init__(self, value):
        super().__init__("this is not a row of final points")
        self.value = value


class InvalidOutcomes(RoundError):
    """Not outcomes of the open games."""

    def __init__(self, value):
        super().__init__("these are not outcomes of the open games")
        self.value = value


class InvalidPlayer(RoundError):
    """Not a player."""

    def __init__(self, value):
        super().__init__("this is not a player")
        self.value = value


class InvalidOrder(RoundError):
    """Nothing that can be known of an order."""

    def __init__(self, value):
        super().__init__("this is nothing that can be known of an order")
        self.value = value


class InvalidBeats(RoundError):
    """Not the beats of 2, 4 or 8 players."""

    def __init__(self, value):
        super().__init__("these are not beats of 2, 4 or 8 players")
        self.value = value


class InvalidDraw(RoundError):
    """Not a draw of all players."""

    def __init__(self, value):
        super().__init__("this is not a draw of all players")
        self.value = value


class InvalidQuestion(RoundError):
    """Not a question for the tour."""

    def __init__(self, value):
        super().__init__("this is not a question for the tour")
        self.value = value


class InvalidClaim(RoundError):
    """Not a claim for the tour."""

    def __init__(self, value):
        super().__init__("this is not a claim for the tour")
        self.value = value


class Undefined(RoundError):
    """There is no such thing as the word asks for."""

    def __init__(self, what):
        super().__init__("there is none of what the attribute what tells")
        self.what = what


class NothingToUndo(RoundError):
    """There is no deed that could be undone or redone."""

    def __init__(self, word):
        super().__init__("there is no deed to undo or redo, as the attribute word tells")
        self.word = word
