"""The operations on a process, each with a call whose arguments have been checked.

Each answers a list of whole numbers, as the document's signature tells them.
"""

from lockedgoals.forecast import forecast_with
from lockedgoals.model import Action
from lockedgoals.ratios import lowest_terms
from lockedgoals.refusals import NothingThere, StateIsFull


def add_action(process, call):
    """Append an action to a state and answer its number."""
    actions = process.actions[call["state"]]
    if len(actions) == 3:
        raise StateIsFull()
    rewards = call["parameters"][:process.goal_count]
    weights = call["parameters"][process.goal_count:]
    actions.append(Action(rewards, weights))
    return [len(actions) - 1]


def remove_action(process, call):
    """Remove an action and answer how many the state still has."""
    actions = process.actions[call["state"]]
    actions.pop(call["action"])
    return [len(actions)]


def called_action(process, call):
    """The action that the call names."""
    return process.actions[call["state"]][call["action"]]


def set_goal_change(process, call):
    """Set how an action changes the goal and answer how it did before."""
    action = called_action(process, call)
    before = action.change
    action.change = call["change"]
    return [before]


def set_lock(process, call):
    """Set whether an action locks the goal and answer whether it did before."""
    action = called_action(process, call)
    before = action.lock
    action.lock = call["flag"]
    return [before]


def chosen_action(process, call):
    """Answer the action that a sophisticated agent chooses."""
    forecast = forecast_with(process, call["steps"])
    chosen = forecast.chosen[(call["state"], call["goal"], call["locked"])]
    if chosen is None:
        raise NothingThere()
    return [chosen]


def value(process, call):
    """Answer the value of a situation for the evaluator."""
    forecast = forecast_with(process, call["steps"])
    worths = forecast.worths[(call["state"], call["goal"], call["locked"])]
    return [0] + lowest_terms(worths[call["evaluator"]], forecast.scale)


def ideal_value(process, call):
    """Answer the ideal value of a state for the evaluator.

    A locked goal chooses all actions, now and later, so the value with the
    evaluator's own goal locked is the ideal value.
    """
    forecast = forecast_with(process, call["steps"])
    evaluator = call["evaluator"]
    worths = forecast.worths[(call["state"], evaluator, 1)]
    return [0] + lowest_terms(worths[evaluator], forecast.scale)


def scaled_costs(forecast, call):
    """The change costs from the call's goal to every goal, times the forecast's scale."""
    goal = call["goal"]
    goal_count = len(forecast.worths[(call["state"], goal, call["locked"])])
    worths = [forecast.worths[(call["state"], other, call["locked"])][goal] for other in range(goal_count)]
    return [worths[goal] - worth for worth in worths]


def change_cost(process, call):
    """Answer what a change to the other goal costs by the present one."""
    forecast = forecast_with(process, call["steps"])
    costs = scaled_costs(forecast, call)
    return [0] + lowest_terms(costs[call["other"]], forecast.scale)


def change_costs(process, call):
    """Answer what a change to each goal costs by the present one."""
    forecast = forecast_with(process, call["steps"])
    answer = [process.goal_count]
    for cost in scaled_costs(forecast, call):
        answer.extend(lowest_terms(cost, forecast.scale))
    return answer


def nearest_goal(process, call):
    """Answer the other goal that the change to costs least, and this cost."""
    others = [goal for goal in range(process.goal_count) if goal != call["goal"]]
    if len(others) == 0:
        raise NothingThere()
    forecast = forecast_with(process, call["steps"])
    costs = scaled_costs(forecast, call)
    nearest = others[0]
    for other in others:
        if costs[other] < costs[nearest]:
            nearest = other
    return [nearest] + lowest_terms(costs[nearest], forecast.scale)


OPERATIONS = {
    "add_action": add_action,
    "remove_action": remove_action,
    "set_goal_change": set_goal_change,
    "set_lock": set_lock,
    "chosen_action": chosen_action,
    "value": value,
    "ideal_value": ideal_value,
    "change_cost": change_cost,
    "change_costs": change_costs,
    "nearest_goal": nearest_goal,
}


def carry_out(process, call):
    """What the operation that the call names answers."""
    if call["name"] not in OPERATIONS:
        raise NotImplementedError(call["name"])
    operation = OPERATIONS[call["name"]]
    return operation(process, call)
