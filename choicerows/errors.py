"""The errors that the program raises."""


class ChoiceError(ValueError):
    """The base class of all of them."""


class GeneratorError(ChoiceError):
    """A generator has a fault, or draws too much."""

    def __init__(self, what, path):
        super().__init__(f"{what}, at {path}")
        self.what = what
        self.path = path


class TextError(ChoiceError):
    """A text cannot be read."""

    def __init__(self, place, what):
        super().__init__(f"{what}, at {place}")
        self.place = place
        self.what = what


class MachineError(ChoiceError):
    """A machine has a fault, or comes to too many states."""

    def __init__(self, what, place):
        super().__init__(f"{what}, at {place}")
        self.what = what
        self.place = place


class BookError(ChoiceError):
    """A book does not do what it is asked for."""

    def __init__(self, what):
        super().__init__(f"{what}")
        self.what = what
