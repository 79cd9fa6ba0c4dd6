"""The refusals of the package."""

# No class here hands a message to its base: Python keeps the arguments that an error is
# made with by itself, and needs just these for the message and for a copy of the error.


class AisleError(ValueError):
    """Any refusal."""


class BadStore(AisleError):
    """What is no store: word says which part of it, number which of them."""

    def __init__(self, word, number):
        self.word = word
        self.number = number


class BadStep(AisleError):
    """What is no step, or no change, of the store."""


class Barred(AisleError):
    """A step of a plan is barred: its rule and number, and at, the step's number."""

    def __init__(self, rule, number, at):
        self.rule = rule
        self.number = number
        self.at = at


class BadText(AisleError):
    """What is no text of a store: row is the number of the first wrong row."""

    def __init__(self, row):
        self.row = row
