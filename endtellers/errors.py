"""The errors of the package: all of them stand under EndError, each keeps what it was made with."""


class EndError(ValueError):
    """An argument that the package refuses."""


class InvalidPolynomial(EndError):
    """A value that is no polynomial was given for one."""

    def __init__(self, given):
        super().__init__("no polynomial as asked")
        self.given = given


class InvalidFraction(EndError):
    """A value that is no fraction, or none as asked, was given for one."""

    def __init__(self, given):
        super().__init__("no fraction as asked")
        self.given = given


class InvalidTeller(EndError):
    """A value that is no teller was given for one."""

    def __init__(self, given):
        super().__init__("no teller as asked")
        self.given = given


class InvalidRow(EndError):
    """A value that is no row was given for one."""

    def __init__(self, given):
        super().__init__("no row as asked")
        self.given = given


class InvalidNumber(EndError):
    """A value that is no whole number, or none as asked, was given for one."""

    def __init__(self, given):
        super().__init__("no whole number as asked")
        self.given = given


class InvalidNumbers(EndError):
    """Numbers of a row are no tuple, or the one at the index is wrong."""

    def __init__(self, index):
        super().__init__("no numbers as asked")
        self.index = index


class InvalidKinds(EndError):
    """Kinds are no tuple, or the one at the index is wrong."""

    def __init__(self, index):
        super().__init__("no kinds as asked")
        self.index = index


class InvalidSteps(EndError):
    """Steps are no tuple, or the one at the index is wrong."""

    def __init__(self, index):
        super().__init__("no steps as asked")
        self.index = index


class InvalidWeights(EndError):
    """Weights are no tuple, or the one at the index is wrong, or all of them together are."""

    def __init__(self, index):
        super().__init__("no weights as asked")
        self.index = index


class NotFair(EndError):
    """One of two tellers is not fair."""


class NotTelling(EndError):
    """There are no weights that tell the end."""
