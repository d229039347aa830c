"""The refusals."""


# Any refusal at all: whoever doesn't ask which one it was takes this.
class QuillError(ValueError):
    pass


# The slip speaks of a sign that has no row yet.
class NotYet(QuillError):
    pass


# The put's tag has a row already, with another sign or put elsewhere.
class Clash(QuillError):
    pass


# The put's tag is not later than the tag that it is put behind.
class Backwards(QuillError):
    pass


# The line writes no slip.
class NoSlip(QuillError):
    pass
