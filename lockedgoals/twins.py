"""Actions that do the same as another one, but leave the goal alone."""

from lockedgoals.model import Action


def is_twin(other, action):
    """Whether the other action is a twin of the action, both of one state."""
    if other.change > 0 or other.lock == 1:
        return False
    return other.rewards == action.rewards and other.weights == action.weights


def twin_among(actions, action):
    """Whether one of the actions is a twin of the action, which may be one of them."""
    return any([is_twin(other, action) for other in actions])


def lacks_twin(actions, action):
    """Whether the action changes the goal and none of the actions is its twin."""
    return action.change > 0 and not twin_among(actions, action)


def made_twin(action):
    """A new action that is a twin of this one."""
    return Action(list(action.rewards), list(action.weights))
