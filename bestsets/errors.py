"""The errors of the package."""


class BestsetsError(ValueError):
    """The base class of all errors of the package."""


class InvalidMatroid(BestsetsError):
    """A line of a matroid is at fault."""

    def __init__(self, line):
        super().__init__(f"line {line} of the matroid is at fault")
        self.line = line


class InvalidLine(BestsetsError):
    """A line of a written matroid cannot be read."""

    def __init__(self, number):
        super().__init__(f"line {number} of the text cannot be read")
        self.number = number


class DifferentSizes(BestsetsError):
    """Two matroids have different sizes."""


class BenchError(BestsetsError):
    """The base class of the errors that only benches raise."""


class UnknownElement(BenchError):
    """There is no such element."""

    def __init__(self, element):
        super().__init__(f"there is no element {element}")
        self.element = element


class AlreadyIn(BenchError):
    """An element is in already."""

    def __init__(self, element):
        super().__init__(f"element {element} is in already")
        self.element = element


class AlreadyOut(BenchError):
    """An element is out already."""

    def __init__(self, element):
        super().__init__(f"element {element} is out already")
        self.element = element


class NoSuchLine(BenchError):
    """There is no such line with data or a bound that can be changed."""

    def __init__(self, line):
        super().__init__(f"there is no line {line} that can be changed so")
        self.line = line


class NoSuchBound(BenchError):
    """There is no such bound."""

    def __init__(self, number):
        super().__init__(f"there is no bound {number}")
        self.number = number


class TooManyChanges(BenchError):
    """There are 100 changes that can be undone."""
