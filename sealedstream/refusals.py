"""The refusals that calls answer, and the error that breaks an end."""

UNFIT = -1
IS_BROKEN = -3
NOT_NOW = -4
TOO_MUCH = -5


class Broken(Exception):
    pass
