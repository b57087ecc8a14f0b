"""The refusals of the program."""


class FineError(ValueError):
    pass


class NoJob(FineError):
    pass
