"""Writes calls as the interface wants them and takes the answers apart."""

from lockedgoals.process import answers

# The greatest number that is handed in for an argument.
MOST = 4294967295


def create(state_count, goal_count):
    return [0, state_count, goal_count]


def add_action(state, parameters):
    return [1, state, len(parameters)] + parameters


def remove_action(state, action):
    return [2, state, action]


def set_goal_change(state, action, change):
    return [3, state, action, change]


def set_lock(state, action, flag):
    return [4, state, action, flag]


def chosen_action(state, goal, locked, steps):
    return [5, state, goal, locked, steps]


def value(evaluator, state, goal, locked, steps):
    return [6, evaluator, state, goal, locked, steps]


def ideal_value(evaluator, state, steps):
    return [7, evaluator, state, steps]


def change_cost(goal, other, state, locked, steps):
    return [8, goal, other, state, locked, steps]


def change_costs(goal, state, locked, steps):
    return [9, goal, state, locked, steps]


def nearest_goal(goal, state, locked, steps):
    return [10, goal, state, locked, steps]


def welcome_goals(goal, state, locked, steps):
    return [11, goal, state, locked, steps]


def lock_value(goal, state, steps):
    return [12, goal, state, steps]


def locking_states(goal, steps):
    return [13, goal, steps]


def naive_action(goal, state, steps):
    return [14, goal, state, steps]


def naive_value(evaluator, state, goal, locked, steps):
    return [15, evaluator, state, goal, locked, steps]


def naive_loss(state, goal, locked, steps):
    return [16, state, goal, locked, steps]


def has_twin(state, action):
    return [17, state, action]


def actions_without_twin():
    return [18]


def add_twins(state):
    return [19, state]


def change_loss(goal, state, steps):
    return [20, goal, state, steps]


def same_choices(goal, other, steps):
    return [21, goal, other, steps]


# The process of the document's examples: action 0 of state 0 changes the goal to 1.
EXAMPLE = [
    create(2, 2),
    add_action(0, [4, 0, 0, 1]),
    add_action(0, [3, 1, 0, 1]),
    add_action(1, [5, 0, 0, 1]),
    add_action(1, [0, 6, 0, 1]),
    set_goal_change(0, 0, 2),
]

# One action in state 0 leads to state 1, where each goal has its own best action.
THREE_GOALS = [
    create(2, 3),
    add_action(0, [0, 0, 0, 1, 3]),
    add_action(1, [6, 0, -2, 0, 1]),
    add_action(1, [1, 4, 0, 0, 1]),
    add_action(1, [3, 0, 5, 0, 1]),
]


def flat(calls):
    """One list of whole numbers out of a list of calls."""
    numbers = []
    for call in calls:
        numbers.extend(call)
    return numbers


def parted(numbers):
    """The list of answers out of one list of whole numbers."""
    found = []
    place = 0
    while place < len(numbers):
        count = numbers[place]
        answer = numbers[place + 1:place + 1 + count]
        assert count > 0 and len(answer) == count, numbers
        found.append(answer)
        place += 1 + count
    return found


def ask(*calls):
    """The answer to each of the calls, made one behind another."""
    return parted(answers(flat(calls)))


def last(*calls):
    """The answer to the last of the calls."""
    return ask(*calls)[-1]


def after(calls, *more):
    """The answers to more calls, made after the first ones."""
    return ask(*calls, *more)[len(calls):]
