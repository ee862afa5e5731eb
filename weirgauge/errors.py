"""The refusals: each has a class of its own, and all stand under one."""


class GaugeError(ValueError):
    pass


class BadPlan(GaugeError):
    pass


class NoLine(GaugeError):
    pass
