"""The refusals."""


class SeekError(ValueError):
    """Any refusal."""


class Unread(SeekError):
    """A text that is not what is written of any pattern."""


class NoForm(SeekError):
    """A form with a `$` that stands for nothing."""


class Memory(SeekError):
    """A pattern that isn't plain, where only plain ones are gone through."""


class Over(SeekError):
    """More moves would be made than are let."""
