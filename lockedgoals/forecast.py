"""What every situation is worth with a certain number of remaining steps.

A situation is a tuple of a state, a goal, and 1 if the goal is locked, otherwise 0.
"""

from lockedgoals.model import goal_after, locked_after
from lockedgoals.ratios import common_multiple


class Forecast:
    """The chosen action and the value of every situation.

    chosen has the number of the chosen action, None if there is none. worths
    has a whole number for each goal as evaluator, which is the value times
    scale: with one scale for all, values are added and compared exactly
    without fractions.
    """

    def __init__(self, scale):
        self.scale = scale
        self.chosen = {}
        self.worths = {}


def forecast_with(process, steps):
    """The forecast for this number of remaining steps, from 0 up."""
    factor = scale_factor(process)
    forecast = forecast_at_end(process)
    for step in range(steps):
        forecast = forecast_before(process, factor, forecast)
    return forecast


def naive_forecast_with(process, steps):
    """The forecast for this number of remaining steps, from 0 up, if all agents are naive.

    Its chosen are the actions that naive agents take, its worths the naive values.
    """
    factor = scale_factor(process)
    expected = forecast_at_end(process)
    forecast = forecast_at_end(process)
    for step in range(steps):
        expected = forecast_before(process, factor, expected)
        forecast = naive_forecast_before(process, factor, expected, forecast)
    return forecast


def scale_factor(process):
    """A number that every action's sum of weights divides."""
    factor = 1
    for actions in process.actions:
        for action in actions:
            factor = common_multiple(factor, sum(action.weights))
    return factor


def all_situations(process):
    """Every situation that there is in the process."""
    situations = []
    for state in range(process.state_count):
        for goal in range(process.goal_count):
            situations.append((state, goal, 0))
            situations.append((state, goal, 1))
    return situations


def forecast_at_end(process):
    """The forecast for no remaining steps."""
    forecast = Forecast(1)
    for situation in all_situations(process):
        forecast.chosen[situation] = None
        forecast.worths[situation] = [0] * process.goal_count
    return forecast


def forecast_before(process, factor, later):
    """The forecast for one more remaining step than the later forecast has."""
    forecast = Forecast(later.scale * factor)
    for situation in all_situations(process):
        goal = situation[1]
        chosen = None
        best = [0] * process.goal_count
        for number, action in enumerate(process.actions[situation[0]]):
            worths = action_worths(action, situation, factor, later)
            if chosen is None or worths[goal] > best[goal]:
                chosen = number
                best = worths
        forecast.chosen[situation] = chosen
        forecast.worths[situation] = best
    return forecast


def naive_forecast_before(process, factor, expected, later):
    """The naive forecast for one more remaining step than the later naive forecast has.

    expected is the forecast for sophisticated agents with the same remaining
    steps. A goal that is locked never changes, which is what a naive agent
    assumes of its own, so it takes what would be chosen with its goal locked.
    """
    forecast = Forecast(later.scale * factor)
    for situation in all_situations(process):
        taken = expected.chosen[(situation[0], situation[1], 1)]
        worths = [0] * process.goal_count
        if taken is not None:
            action = process.actions[situation[0]][taken]
            worths = action_worths(action, situation, factor, later)
        forecast.chosen[situation] = taken
        forecast.worths[situation] = worths
    return forecast


def action_worths(action, situation, factor, later):
    """The value of the action for each goal, times the scale of the forecast that is made."""
    goal = goal_after(action, situation[1], situation[2])
    locked = locked_after(action, situation[2])
    share = factor // sum(action.weights)
    scale = later.scale * factor
    worths = []
    for evaluator, reward in enumerate(action.rewards):
        expected = 0
        for state, weight in enumerate(action.weights):
            expected += weight * later.worths[(state, goal, locked)][evaluator]
        worths.append(reward * scale + expected * share)
    return worths
