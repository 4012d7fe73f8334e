"""What is raised where something is refused."""


class ListError(ValueError):
    """Any refusal."""


class TooMany(ListError):
    """There is no place for one more."""


class NoNumber(ListError):
    """No row that is there has this number."""


class NoQuestion(ListError):
    """The question isn't asked."""


class NoRow(ListError):
    """A desk is told what is none of its rows."""


class NoText(ListError):
    """A text writes no question; its field is the number of the word that is wrong."""

    def __init__(self, number):
        # The number is left out of the message: Python fails to write one of thousands of figures.
        super().__init__("this text writes no question")
        self.number = number
