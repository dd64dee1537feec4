"""The errors that the program raises."""


class PatchkeptError(ValueError):
    """The base class of all errors that the program raises."""


class InvalidText(PatchkeptError):
    """A string cannot be read as the JSON text of a value; `index` is where its first fault is."""

    def __init__(self, index):
        self.index = index


class InvalidForm(PatchkeptError):
    """A value is not what some schema or patch becomes."""


class VaultError(PatchkeptError):
    """The base class of the errors of a vault."""


class UnknownName(VaultError):
    """A vault has no collection, document or patch of this name."""


class NameTaken(VaultError):
    """A vault already has a collection, document or patch of this name."""


class InvalidDocument(VaultError):
    """A value is not valid by the schema of its collection, or is too large or too deep for it."""
