"""Many small processes, each held against the document's terms and requirements.

The values are worked out here a second time, straight from the terms, with
Python's own fractions and by calls within calls.
"""

import unittest
from fractions import Fraction

from tests.helper import (
    add_action, after, change_cost, change_costs, chosen_action, create, ideal_value, nearest_goal, set_goal_change,
    set_lock, value,
)


class Numbers:
    """The same row of numbers for the same start, on every machine."""

    def __init__(self, start):
        self.now = start

    def up_to(self, greatest):
        self.now = (self.now * 6364136223846793005 + 1442695040888963407) % 2 ** 64
        return (self.now >> 33) % (greatest + 1)


class Terms:
    """A process, with the document's terms as they are written."""

    def __init__(self, states, goals):
        self.states = states
        self.goals = goals
        self.actions = [[] for _ in range(states)]

    def calls(self):
        made = [create(self.states, self.goals)]
        for state, actions in enumerate(self.actions):
            for number, (rewards, weights, change, lock) in enumerate(actions):
                made.append(add_action(state, rewards + weights))
                made.append(set_goal_change(state, number, change))
                made.append(set_lock(state, number, lock))
        return made

    def action_value(self, action, evaluator, goal, locked, steps):
        rewards, weights, change, lock = action
        new_goal = change - 1 if change and not locked else goal
        new_locked = 1 if locked or lock else 0
        found = Fraction(rewards[evaluator])
        for state, weight in enumerate(weights):
            if weight:
                later = self.value(evaluator, state, new_goal, new_locked, steps - 1)
                found += Fraction(weight, sum(weights)) * later
        return found

    def chosen(self, state, goal, locked, steps):
        found = [self.action_value(action, goal, goal, locked, steps) for action in self.actions[state]]
        return found.index(max(found)) if found else None

    def value(self, evaluator, state, goal, locked, steps):
        if steps == 0 or not self.actions[state]:
            return Fraction(0)
        chosen = self.chosen(state, goal, locked, steps)
        return self.action_value(self.actions[state][chosen], evaluator, goal, locked, steps)

    def ideal(self, evaluator, state, steps):
        if steps == 0 or not self.actions[state]:
            return Fraction(0)
        found = []
        for rewards, weights, _, _ in self.actions[state]:
            later = sum(weight * self.ideal(evaluator, next_state, steps - 1)
                        for next_state, weight in enumerate(weights))
            found.append(rewards[evaluator] + Fraction(later) / sum(weights))
        return max(found)

    def cost(self, goal, other, state, locked, steps):
        return self.value(goal, state, goal, locked, steps) - self.value(goal, state, other, locked, steps)


def made_action(numbers, states, goals, small):
    """An action; small rewards and weights make ties likely."""
    rewards = [numbers.up_to(2) - 1 if small else numbers.up_to(18) - 9 for _ in range(goals)]
    weights = [numbers.up_to(1) if small else numbers.up_to(9) for _ in range(states)]
    if sum(weights) == 0:
        weights[numbers.up_to(states - 1)] = 1
    return (rewards, weights, numbers.up_to(goals), 1 if numbers.up_to(3) == 0 else 0)


def made_process(numbers):
    made = Terms(2 + numbers.up_to(2), 1 + numbers.up_to(2))
    small = numbers.up_to(1) == 1
    for state in range(made.states):
        for _ in range(numbers.up_to(3)):
            made.actions[state].append(made_action(numbers, made.states, made.goals, small))
    return made


def with_twins(numbers):
    """A process in which every action that changes the goal has a twin, ahead of it or behind."""
    made = Terms(2 + numbers.up_to(2), 1 + numbers.up_to(2))
    for state in range(made.states):
        rewards, weights, change, lock = made_action(numbers, made.states, made.goals, numbers.up_to(1) == 1)
        actions = [(rewards, weights, 0, 0)]
        actions.insert(numbers.up_to(1), (rewards, weights, change, lock))
        if numbers.up_to(2) > 0:
            rewards, weights, _, lock = made_action(numbers, made.states, made.goals, False)
            actions.insert(numbers.up_to(2), (rewards, weights, 0, lock))
        made.actions[state] = actions
    return made


def fraction(found):
    return [found.numerator, found.denominator]


def situations(made):
    for state in range(made.states):
        for goal in range(made.goals):
            for locked in (0, 1):
                yield state, goal, locked


class AgainstTheTerms(unittest.TestCase):
    def check(self, made, asked):
        """Hold (call, answer) pairs against the program, as many at a time as a list has room for."""
        calls = made.calls()
        room = 60 - len(calls)
        for start in range(0, len(asked), room):
            part = asked[start:start + room]
            self.assertEqual(after(calls, *[call for call, _ in part]), [answer for _, answer in part], calls)

    def test_chosen_actions_and_values(self):
        numbers = Numbers(1)
        for _ in range(150):
            made = made_process(numbers)
            steps = numbers.up_to(3)
            asked = []
            for state, goal, locked in situations(made):
                for evaluator in range(made.goals):
                    found = made.value(evaluator, state, goal, locked, steps)
                    asked.append((value(evaluator, state, goal, locked, steps), [0] + fraction(found)))
                found = made.ideal(goal, state, steps)
                asked.append((ideal_value(goal, state, steps), [0] + fraction(found)))
                if steps > 0:
                    found = made.chosen(state, goal, locked, steps)
                    asked.append((chosen_action(state, goal, locked, steps), [-33 if found is None else found]))
            self.check(made, asked)

    def test_change_costs_and_the_nearest_goal(self):
        numbers = Numbers(2)
        for _ in range(150):
            made = made_process(numbers)
            steps = numbers.up_to(3)
            asked = []
            for state, goal, locked in situations(made):
                costs = [made.cost(goal, other, state, locked, steps) for other in range(made.goals)]
                asked.append((change_costs(goal, state, locked, steps),
                              [made.goals] + [number for cost in costs for number in fraction(cost)]))
                for other, cost in enumerate(costs):
                    asked.append((change_cost(goal, other, state, locked, steps), [0] + fraction(cost)))
                others = [(cost, other) for other, cost in enumerate(costs) if other != goal]
                nearest = [min(others)[1]] + fraction(min(others)[0]) if others else [-33]
                asked.append((nearest_goal(goal, state, locked, steps), nearest))
            self.check(made, asked)

    def test_four_steps_through_the_greatest_process(self):
        numbers = Numbers(3)
        made = Terms(4, 3)
        for state in range(4):
            for _ in range(3):
                made.actions[state].append(made_action(numbers, 4, 3, False))
        asked = []
        for evaluator, state, goal in ((0, 0, 0), (1, 0, 0), (2, 3, 1)):
            found = made.value(evaluator, state, goal, 0, 4)
            asked.append((value(evaluator, state, goal, 0, 4), [0] + fraction(found)))
        found = made.ideal(2, 1, 4)
        asked.append((ideal_value(2, 1, 4), [0] + fraction(found)))
        self.check(made, asked)


class BeyondSixtyFourBits(unittest.TestCase):
    def test_a_long_numerator_and_denominator(self):
        made = Terms(4, 3)
        made.actions = [
            [([1, -9, 4], [3, 8, 3, 7], 1, 0), ([-8, -4, 2], [7, 9, 4, 7], 2, 0), ([5, -7, 2], [1, 1, 1, 8], 1, 0)],
            [([8, -3, 5], [8, 8, 8, 7], 1, 0), ([9, 9, 1], [4, 5, 5, 5], 3, 0), ([7, 6, -9], [1, 6, 4, 5], 1, 0)],
            [([-8, 5, -5], [8, 7, 7, 7], 2, 0), ([4, -8, 9], [5, 6, 6, 6], 0, 0), ([-3, 3, -2], [6, 4, 3, 5], 1, 0)],
            [([6, -3, 8], [7, 9, 4, 6], 2, 0), ([9, 6, -5], [6, 7, 6, 6], 1, 0), ([1, 5, 1], [3, 6, 4, 4], 1, 0)],
        ]
        found = made.value(1, 0, 1, 0, 4)
        self.assertEqual(after(made.calls(), value(1, 0, 1, 0, 4)), [[0] + fraction(found)])
        self.assertGreater(found.numerator, 2 ** 64)
        self.assertGreater(found.denominator, 2 ** 64)


class Requirements(unittest.TestCase):
    def test_twins_give_ideal_values_and_no_change_pays(self):
        numbers = Numbers(4)
        for _ in range(60):
            made = with_twins(numbers)
            calls = made.calls()
            for state, goal, locked in situations(made):
                found = after(calls, value(goal, state, goal, locked, 4), ideal_value(goal, state, 4),
                              change_costs(goal, state, locked, 4))
                self.assertEqual(found[0], found[1], calls)
                self.assertGreaterEqual(min(found[2][1::2]), 0, calls)

    def test_with_twins_the_changes_may_as_well_be_removed(self):
        numbers = Numbers(5)
        for _ in range(60):
            made = with_twins(numbers)
            calm = Terms(made.states, made.goals)
            calm.actions = [[action for action in actions if action[2] == 0] for actions in made.actions]
            for state, goal, locked in situations(made):
                asked = value(goal, state, goal, locked, 4)
                self.assertEqual(after(made.calls(), asked), after(calm.calls(), asked))

    def test_a_change_to_the_goal_itself_costs_nothing(self):
        numbers = Numbers(6)
        for _ in range(100):
            made = made_process(numbers)
            for state, goal, locked in situations(made):
                self.assertEqual(after(made.calls(), change_cost(goal, goal, state, locked, 4)), [[0, 0, 1]])

    def test_no_other_goal_is_nearer_than_the_nearest(self):
        numbers = Numbers(7)
        for _ in range(100):
            made = made_process(numbers)
            if made.goals == 1:
                continue
            for state, goal, locked in situations(made):
                costs, nearest = after(made.calls(), change_costs(goal, state, locked, 4),
                                       nearest_goal(goal, state, locked, 4))
                for other in range(made.goals):
                    if other != goal:
                        cost = Fraction(costs[1 + 2 * other], costs[2 + 2 * other])
                        self.assertLessEqual(Fraction(nearest[1], nearest[2]), cost)


if __name__ == "__main__":
    unittest.main()
