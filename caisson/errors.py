"""The errors of the program."""


class CaissonError(ValueError):
    """The base class of all errors of the program."""


class ShapeError(CaissonError):
    """A number of a shape is out of its range."""

    def __init__(self, name):
        super().__init__(f"{name} is out of its range")
        self.name = name


class TalkError(CaissonError):
    """An answer came to a talk that had ended."""

    def __init__(self, answers):
        super().__init__(f"the talk ended after {answers} answers")
        self.answers = answers
