"""The refusals. Each stands straight beneath DriftError, so that one can be taken without another."""


# Beneath ValueError, so that whoever knows nothing of this package can take a refusal too.
class DriftError(ValueError):
    pass


class NoThing(DriftError):
    pass


class NoWant(DriftError):
    pass


class NoPath(DriftError):
    pass


class NoHandle(DriftError):
    pass


class NoRoom(DriftError):
    pass


class Twice(DriftError):
    pass


class NoView(DriftError):
    pass


class NoWatch(DriftError):
    pass


class NoText(DriftError):
    pass
