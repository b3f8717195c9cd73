"""The refusals, one class for each."""


class CopyError(ValueError):
    pass


class NoDesk(CopyError):
    pass


class NoPage(CopyError):
    pass


class Waiting(CopyError):
    pass


class NoCopy(CopyError):
    pass


class NoLetter(CopyError):
    pass
