"""All errors that this package raises."""


class HeapError(ValueError):
    """The base class of all errors of this package; those without fields take nothing."""

    def __init__(self):
        super().__init__()


class BadHeaps(HeapError):
    """The value is no heaps, or none of the kind that the function takes."""


class BadStep(HeapError):
    """The value is no step that can be made."""


class BadPlan(HeapError):
    """The value is no plan: index tells the first thing that is wrong, None the whole."""

    # Python itself keeps what an error is created with, by which it is shown and
    # copied. The __init__ of the base class would empty that, so it is not called.
    def __init__(self, index):
        self.index = index


class BadMany(HeapError):
    """The value is no number of such things as the function takes."""


class TooGreat(HeapError):
    """The heaps are too many or too great for the function."""


class Full(HeapError):
    """The desk takes no further step."""


class BadTotal(HeapError):
    """The value is no sum that the function takes."""


class InvalidText(HeapError):
    """The text is no plan: line and word, both counted from 1, tell where."""

    # Not calling the __init__ of the base class: see BadPlan.
    def __init__(self, line, word):
        self.line = line
        self.word = word
