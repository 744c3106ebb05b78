"""The refusals: one class each, all under WardError and none under another one."""


class WardError(ValueError):
    pass


class NoRow(WardError):
    pass


class NoMeasure(WardError):
    pass


class NoBar(WardError):
    pass


class Same(WardError):
    pass


class NoSwitch(WardError):
    pass


class Loaded(WardError):
    pass


class Shorted(WardError):
    pass


class Locked(WardError):
    pass


class Held(WardError):
    pass


class NoLock(WardError):
    pass


class NotOpen(WardError):
    pass


class NotLocked(WardError):
    pass


class NotEarthed(WardError):
    pass


class NotDead(WardError):
    pass


class NoPermit(WardError):
    pass
