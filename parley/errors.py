"""The errors of the program."""


class ParleyError(ValueError):
    """The base class of all errors of the program."""


class BadArgument(ParleyError):
    """An argument is out of its range."""


class BadText(ParleyError):
    """A line of a text is wrong."""

    def __init__(self, line):
        ParleyError.__init__(self, f"line {line} is wrong")
        self.line = line


class TooLarge(ParleyError):
    """Something is greater than its limit."""

    def __init__(self, limit):
        ParleyError.__init__(self, f"more than {limit}")
        self.limit = limit


class TooDeep(ParleyError):
    """A process is too high, or too many growing references follow each other."""


class NameTwice(ParleyError):
    """A script defines a name twice."""

    def __init__(self, name):
        ParleyError.__init__(self, f"{name} is defined twice")
        self.name = name


class UnknownName(ParleyError):
    """A name is not defined."""

    def __init__(self, name):
        ParleyError.__init__(self, f"{name} is not defined")
        self.name = name


class Unguarded(ParleyError):
    """A name leads back to itself by open references."""

    def __init__(self, name):
        ParleyError.__init__(self, f"{name} is unguarded")
        self.name = name


class Growing(ParleyError):
    """A name leads back to itself by references of which one is growing."""

    def __init__(self, name):
        ParleyError.__init__(self, f"{name} is growing")
        self.name = name


class BadSystem(ParleyError):
    """A number of states is out of range, or an edge has a state or an action that there is not."""


class UnknownModel(ParleyError):
    """A word is not the name of a model."""

    def __init__(self, model):
        ParleyError.__init__(self, f"{model} is not a model")
        self.model = model


class BadFormula(ParleyError):
    """A text is not that of a formula."""


class BadNetwork(ParleyError):
    """A tree names a part that there is not, is too high, or names parts too often."""


class BadAnswer(ParleyError):
    """An answer is not of the form that its claim asks for."""
