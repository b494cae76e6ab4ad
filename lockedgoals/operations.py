"""The operations on a process, each with a call whose arguments have been checked.

Each answers a list of whole numbers, as the document's signature tells them.
"""

from lockedgoals.forecast import forecast_with, naive_forecast_with
from lockedgoals.model import Action, without_changes
from lockedgoals.ratios import difference, lowest_terms
from lockedgoals.refusals import NothingThere, StateIsFull
from lockedgoals.twins import lacks_twin, made_twin, twin_among

MOST_ACTIONS = 3


def add_action(process, call):
    """Append an action to a state and answer its number."""
    actions = process.actions[call["state"]]
    if len(actions) == MOST_ACTIONS:
        raise StateIsFull()
    rewards = call["parameters"][:process.goal_count]
    weights = call["parameters"][process.goal_count:]
    actions.append(Action(rewards, weights))
    return [len(actions) - 1]


def remove_action(process, call):
    """Remove an action and answer how many the state still has."""
    actions = process.actions[call["state"]]
    actions.pop(call["action"])
    return [len(actions)]


def called_action(process, call):
    """The action that the call names."""
    return process.actions[call["state"]][call["action"]]


def set_goal_change(process, call):
    """Set how an action changes the goal and answer how it did before."""
    action = called_action(process, call)
    before = action.change
    action.change = call["change"]
    return [before]


def set_lock(process, call):
    """Set whether an action locks the goal and answer whether it did before."""
    action = called_action(process, call)
    before = action.lock
    action.lock = call["flag"]
    return [before]


def chosen_in(forecast, situation):
    """The action that the forecast tells, which isn't there in a state without actions."""
    chosen = forecast.chosen[situation]
    if chosen is None:
        raise NothingThere()
    return chosen


def chosen_action(process, call):
    """Answer the action that a sophisticated agent chooses."""
    forecast = forecast_with(process, call["steps"])
    return [chosen_in(forecast, (call["state"], call["goal"], call["locked"]))]


def worth_for_evaluator(forecast, call):
    """The answer that tells what the call's situation is worth for its evaluator."""
    worths = forecast.worths[(call["state"], call["goal"], call["locked"])]
    return [0] + lowest_terms(worths[call["evaluator"]], forecast.scale)


def own_worth(forecast, state, goal, locked):
    """What a situation is worth for its own goal, times the forecast's scale."""
    return forecast.worths[(state, goal, locked)][goal]


def value(process, call):
    """Answer the value of a situation for the evaluator."""
    return worth_for_evaluator(forecast_with(process, call["steps"]), call)


def ideal_value(process, call):
    """Answer the ideal value of a state for the evaluator.

    A locked goal chooses all actions, now and later, so the value with the
    evaluator's own goal locked is the ideal value.
    """
    forecast = forecast_with(process, call["steps"])
    worth = own_worth(forecast, call["state"], call["evaluator"], 1)
    return [0] + lowest_terms(worth, forecast.scale)


def scaled_costs(forecast, call):
    """The change costs from the call's goal to every goal, times the forecast's scale."""
    goal = call["goal"]
    goal_count = len(forecast.worths[(call["state"], goal, call["locked"])])
    worths = [forecast.worths[(call["state"], other, call["locked"])][goal] for other in range(goal_count)]
    return [worths[goal] - worth for worth in worths]


def change_cost(process, call):
    """Answer what a change to the other goal costs by the present one."""
    forecast = forecast_with(process, call["steps"])
    costs = scaled_costs(forecast, call)
    return [0] + lowest_terms(costs[call["other"]], forecast.scale)


def change_costs(process, call):
    """Answer what a change to each goal costs by the present one."""
    forecast = forecast_with(process, call["steps"])
    answer = [process.goal_count]
    for cost in scaled_costs(forecast, call):
        answer.extend(lowest_terms(cost, forecast.scale))
    return answer


def other_goals(process, call):
    """All goals but the call's own, in increasing order."""
    return [other for other in range(process.goal_count) if other != call["goal"]]


def nearest_goal(process, call):
    """Answer the other goal that the change to costs least, and this cost."""
    others = other_goals(process, call)
    if len(others) == 0:
        raise NothingThere()
    forecast = forecast_with(process, call["steps"])
    costs = scaled_costs(forecast, call)
    nearest = others[0]
    for other in others:
        if costs[other] < costs[nearest]:
            nearest = other
    return [nearest] + lowest_terms(costs[nearest], forecast.scale)


def welcome_goals(process, call):
    """Answer how many other goals the change to costs at most 0, and these goals."""
    forecast = forecast_with(process, call["steps"])
    costs = scaled_costs(forecast, call)
    welcome = [other for other in other_goals(process, call) if costs[other] <= 0]
    return [len(welcome)] + welcome


def lock_value(process, call):
    """Answer what it is worth to a goal to be locked."""
    forecast = forecast_with(process, call["steps"])
    locked = own_worth(forecast, call["state"], call["goal"], 1)
    free = own_worth(forecast, call["state"], call["goal"], 0)
    return [0] + lowest_terms(locked - free, forecast.scale)


def locking_states(process, call):
    """Answer how many states there are where the chosen action locks the goal, and these states."""
    forecast = forecast_with(process, call["steps"])
    states = []
    for state, actions in enumerate(process.actions):
        chosen = forecast.chosen[(state, call["goal"], 0)]
        if chosen is not None and actions[chosen].lock == 1:
            states.append(state)
    return [len(states)] + states


def naive_action(process, call):
    """Answer the action that a naive agent takes."""
    forecast = naive_forecast_with(process, call["steps"])
    return [chosen_in(forecast, (call["state"], call["goal"], 0))]


def naive_value(process, call):
    """Answer the naive value of a situation for the evaluator."""
    return worth_for_evaluator(naive_forecast_with(process, call["steps"]), call)


def naive_loss(process, call):
    """Answer how much less than the ideal value a naive agent reaches for its goal.

    With its goal locked a naive agent assumes what is true, so that it
    reaches the ideal value.
    """
    forecast = naive_forecast_with(process, call["steps"])
    ideal = own_worth(forecast, call["state"], call["goal"], 1)
    reached = own_worth(forecast, call["state"], call["goal"], call["locked"])
    return [0] + lowest_terms(ideal - reached, forecast.scale)


def has_twin(process, call):
    """Answer 1 if an action has a twin, otherwise 0."""
    found = twin_among(process.actions[call["state"]], called_action(process, call))
    return [1 if found else 0]


def actions_without_twin(process, call):
    """Answer how many actions change the goal and have no twin, and where each of them is."""
    places = []
    for state, actions in enumerate(process.actions):
        for number, action in enumerate(actions):
            if lacks_twin(actions, action):
                places.extend([state, number])
    return [len(places) // 2] + places


def add_twins(process, call):
    """Append the twins that the state's actions lack, as far as there is room, and answer how many."""
    actions = process.actions[call["state"]]
    before = len(actions)
    for action in list(actions):
        if lacks_twin(actions, action) and len(actions) < MOST_ACTIONS:
            actions.append(made_twin(action))
    return [len(actions) - before]


def change_loss(process, call):
    """Answer how much more a goal would reach if no action changed the goal."""
    calm = forecast_with(without_changes(process), call["steps"])
    present = forecast_with(process, call["steps"])
    calm_worth = own_worth(calm, call["state"], call["goal"], 0)
    present_worth = own_worth(present, call["state"], call["goal"], 0)
    return [0] + difference(calm_worth, calm.scale, present_worth, present.scale)


def same_choices(process, call):
    """Answer 1 if two goals choose alike in every state and with every number of steps, otherwise 0."""
    for steps in range(1, call["steps"] + 1):
        forecast = forecast_with(process, steps)
        for state in range(process.state_count):
            if forecast.chosen[(state, call["goal"], 0)] != forecast.chosen[(state, call["other"], 0)]:
                return [0]
    return [1]


OPERATIONS = {
    "add_action": add_action,
    "remove_action": remove_action,
    "set_goal_change": set_goal_change,
    "set_lock": set_lock,
    "chosen_action": chosen_action,
    "value": value,
    "ideal_value": ideal_value,
    "change_cost": change_cost,
    "change_costs": change_costs,
    "nearest_goal": nearest_goal,
    "welcome_goals": welcome_goals,
    "lock_value": lock_value,
    "locking_states": locking_states,
    "naive_action": naive_action,
    "naive_value": naive_value,
    "naive_loss": naive_loss,
    "has_twin": has_twin,
    "actions_without_twin": actions_without_twin,
    "add_twins": add_twins,
    "change_loss": change_loss,
    "same_choices": same_choices,
}


def carry_out(process, call):
    """What the operation that the call names answers."""
    operation = OPERATIONS[call["name"]]
    return operation(process, call)
