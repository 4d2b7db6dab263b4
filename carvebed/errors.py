"""The refusals: each stands straight under CarveError, so that none is taken for another one."""


class CarveError(ValueError):
    pass


class TooLong(CarveError):
    pass


class NoRow(CarveError):
    pass


class NoPlace(CarveError):
    pass


class TooDeep(CarveError):
    pass


class Twice(CarveError):
    pass


class Open(CarveError):
    pass


class NoSub(CarveError):
    pass


class NoForm(CarveError):
    pass


class NoBed(CarveError):
    pass


class NoMeasure(CarveError):
    pass


class NoCell(CarveError):
    pass


class NoCutter(CarveError):
    pass
