"""The errors that the package raises."""


class StoreError(ValueError):
    """What every error of the package is."""


class InvalidStore(StoreError):
    """An argument that must be a store is none."""

    def __init__(self, value=None):
        self.value = value


class InvalidQuestion(StoreError):
    """An argument that must be a question, perhaps of a store, is none."""

    def __init__(self, value=None):
        self.value = value


class InvalidName(StoreError):
    """An argument that must be a name of some kind is none."""

    def __init__(self, value=None):
        self.value = value


class InvalidItem(StoreError):
    """An argument that must be an item of some kind is none."""

    def __init__(self, value=None):
        self.value = value


class InvalidFact(StoreError):
    """A fact is none, or it cannot stand where it is put."""

    def __init__(self, value=None):
        self.value = value


class InvalidNumber(StoreError):
    """An argument that must be a number of some kind is none."""

    def __init__(self, value=None):
        self.value = value


class InvalidList(StoreError):
    """An argument that must be a list or a row of some kind is none."""

    def __init__(self, value=None):
        self.value = value


class InvalidText(StoreError):
    """An argument that must be a text is none, or the text is wrong at a place."""

    def __init__(self, value=None):
        self.value = value


class InvalidPaper(StoreError):
    """An argument that must be a paper of some kind is none."""

    def __init__(self, value=None):
        self.value = value


class InvalidFlag(StoreError):
    """An argument that must be True or False is neither."""

    def __init__(self, value=None):
        self.value = value


class Unlike(StoreError):
    """Two arguments that must be alike in some way are not."""

    def __init__(self, value=None):
        self.value = value


class TooMany(StoreError):
    """There are more of something than are allowed."""

    def __init__(self, value=None):
        self.value = value


class NothingToUndo(StoreError):
    """No change stands that could be taken back."""


class NothingToRedo(StoreError):
    """No change was taken back that could be made again."""
