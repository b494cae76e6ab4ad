"""The refusals of a call, one error class for each error code."""


class NoProcess(Exception):
    """There is no process: -11."""


class DoesNotExist(Exception):
    """The state, the goal or the action doesn't exist: -2."""


class OutsideLimits(Exception):
    """An argument is outside its limits: -22."""


class StateIsFull(Exception):
    """The state already has 3 actions: -28."""


class NothingThere(Exception):
    """The state has no actions, or there is no other goal: -33."""
