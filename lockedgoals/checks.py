"""The checks of what is handed in, ahead of every operation.

A call is a dict from the names of its arguments to what was handed in for them;
under "name" it has its own name. Every argument name stands for one kind of thing,
so one check of the names serves all calls.
"""

from lockedgoals.refusals import DoesNotExist, OutsideLimits

NEED_A_STEP = ("chosen_action", "locking_states", "naive_action")


def check_sizes(call):
    """Refuse a process with too few or too many states or goals."""
    if call["state_count"] < 2 or call["state_count"] > 4:
        raise OutsideLimits()
    if call["goal_count"] < 1 or call["goal_count"] > 3:
        raise OutsideLimits()


def check_existence(process, call):
    """Refuse a state, a goal or an action that doesn't exist."""
    if "state" in call and call["state"] >= process.state_count:
        raise DoesNotExist()
    for name in ("goal", "other", "evaluator"):
        if name in call and call[name] >= process.goal_count:
            raise DoesNotExist()
    if "action" in call and call["action"] >= len(process.actions[call["state"]]):
        raise DoesNotExist()


def check_limits(process, call):
    """Refuse what is outside its limits."""
    for name in ("flag", "locked"):
        if name in call and call[name] > 1:
            raise OutsideLimits()
    if "change" in call and call["change"] > process.goal_count:
        raise OutsideLimits()
    if "steps" in call:
        check_steps(call)
    if "parameters" in call:
        check_parameters(process, call["parameters"])


def check_steps(call):
    """Refuse too many remaining steps, and none where an action is asked for."""
    if call["steps"] > 4:
        raise OutsideLimits()
    if call["steps"] == 0 and call["name"] in NEED_A_STEP:
        raise OutsideLimits()


def check_parameters(process, parameters):
    """Refuse a list that doesn't tell an action of this process."""
    if len(parameters) != process.goal_count + process.state_count:
        raise OutsideLimits()
    rewards = parameters[:process.goal_count]
    weights = parameters[process.goal_count:]
    if min(rewards) < -9 or max(rewards) > 9:
        raise OutsideLimits()
    if min(weights) < 0 or max(weights) > 9 or sum(weights) == 0:
        raise OutsideLimits()
