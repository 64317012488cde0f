"""The errors that Lydite raises. The points of the document name them."""


class LyditeError(ValueError):
    """The base class of all errors of the program."""


class TooLarge(LyditeError):
    """A term would have too many nodes or a variable that is too great."""


class NoPlace(LyditeError):
    """A string is no place of a term."""


class NoRedex(LyditeError):
    """A string is no redex, or no needless abstraction, of a term."""


class BadNames(LyditeError):
    """A list of free names does not serve to write a term."""


class BadText(LyditeError):
    """A text is not the text of a term. `at` is the index where it fails."""

    def __init__(self, at):
        super().__init__(f"the text fails at the index {at}")
        self.at = at


class OutOfSteps(LyditeError):
    """A term needs more steps than the given number."""


class BadCrowd(LyditeError):
    """A list of terms is no crowd."""


class AllEqual(LyditeError):
    """All terms of a crowd are equal."""


class NoKind(LyditeError):
    """A term has no kinding, or two kinds cannot become the same one."""


class NoNumber(LyditeError):
    """A term is the term of no number."""


class NoName(LyditeError):
    """A name does not stand in the table of terms."""


class BadClaim(LyditeError):
    """A text is not the text of a claim."""
