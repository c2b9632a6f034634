"""The refusals: one class for each, all under MillError."""


class MillError(ValueError):
    pass


class NoStep(MillError):
    pass


class NoChain(MillError):
    pass


class NoLine(MillError):
    pass
