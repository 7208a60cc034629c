"""The errors by which the program refuses what it is handed."""


class EndsError(ValueError):
    """Above every refusal of this program."""


class BadLetters(EndsError):
    """No one to three rising letters from a to z."""


class BadMachine(EndsError):
    """No machine."""


class BadPlain(EndsError):
    """No plain machine."""


class BadWord(EndsError):
    """No text of the letters, a text that is too long, or two of unlike many letters."""


class BadLength(EndsError):
    """No length, or no count, within its limits."""


class BadNumber(EndsError):
    """No number of a word."""


class Unlike(EndsError):
    """Two machines with other letters."""


class NotHad(EndsError):
    """A word that the machine hasn't."""


class TooMany(EndsError):
    """More states, or more texts, than are allowed."""
