"""The decision process that the agents move through."""


class Action:
    """What an agent can do in a state.

    change is 0, or the goal that the action changes to, plus 1; lock is 1 if
    the action locks the goal, otherwise 0.
    """

    def __init__(self, rewards, weights):
        self.rewards = rewards
        self.weights = weights
        self.change = 0
        self.lock = 0


class Process:
    """The numbers of states and goals, and a list of actions for each state."""

    def __init__(self, state_count, goal_count):
        self.state_count = state_count
        self.goal_count = goal_count
        self.actions = [[] for state in range(state_count)]


def calm_actions(actions):
    """Those of the actions that don't change the goal."""
    return [action for action in actions if action.change == 0]


def without_changes(process):
    """A process of its own that has only the actions that don't change the goal."""
    calm = Process(process.state_count, process.goal_count)
    calm.actions = [calm_actions(actions) for actions in process.actions]
    return calm


def goal_after(action, goal, locked):
    """The goal of an agent that has taken the action."""
    if action.change > 0 and locked == 0:
        return action.change - 1
    return goal


def locked_after(action, locked):
    """1 if the goal of an agent that has taken the action is locked, otherwise 0."""
    return max(locked, action.lock)
