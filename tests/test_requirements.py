"""Many small processes, each held against the document's terms and requirements.

The values are worked out here a second time, straight from the terms, with
Python's own fractions and by calls within calls.
"""

import unittest
from fractions import Fraction

from tests.helper import (
    actions_without_twin, add_action, add_twins, after, change_cost, change_costs, change_loss, chosen_action, create,
    has_twin, ideal_value, lock_value, locking_states, naive_action, naive_loss, naive_value, nearest_goal,
    remove_action, same_choices, set_goal_change, set_lock, value, welcome_goals,
)


class Numbers:
    """The same row of numbers for the same start, on every machine."""

    def __init__(self, start):
        self.now = start

    def up_to(self, greatest):
        self.now = (self.now * 6364136223846793005 + 1442695040888963407) % 2 ** 64
        return (self.now >> 33) % (greatest + 1)


class Terms:
    """A process, with the document's terms as they are written."""

    def __init__(self, states, goals):
        self.states = states
        self.goals = goals
        self.actions = [[] for _ in range(states)]

    def calls(self):
        made = [create(self.states, self.goals)]
        for state, actions in enumerate(self.actions):
            for number, (rewards, weights, change, lock) in enumerate(actions):
                made.append(add_action(state, rewards + weights))
                made.append(set_goal_change(state, number, change))
                made.append(set_lock(state, number, lock))
        return made

    def action_value(self, action, evaluator, goal, locked, steps):
        rewards, weights, change, lock = action
        new_goal = change - 1 if change and not locked else goal
        new_locked = 1 if locked or lock else 0
        found = Fraction(rewards[evaluator])
        for state, weight in enumerate(weights):
            if weight:
                later = self.value(evaluator, state, new_goal, new_locked, steps - 1)
                found += Fraction(weight, sum(weights)) * later
        return found

    def chosen(self, state, goal, locked, steps):
        found = [self.action_value(action, goal, goal, locked, steps) for action in self.actions[state]]
        return found.index(max(found)) if found else None

    def value(self, evaluator, state, goal, locked, steps):
        if steps == 0 or not self.actions[state]:
            return Fraction(0)
        chosen = self.chosen(state, goal, locked, steps)
        return self.action_value(self.actions[state][chosen], evaluator, goal, locked, steps)

    def hopes(self, goal, state, steps):
        """What each action is worth if the goal chooses all later ones."""
        found = []
        for rewards, weights, _, _ in self.actions[state]:
            later = sum(weight * self.ideal(goal, next_state, steps - 1)
                        for next_state, weight in enumerate(weights) if weight)
            found.append(rewards[goal] + Fraction(later) / sum(weights))
        return found

    def ideal(self, evaluator, state, steps):
        if steps == 0 or not self.actions[state]:
            return Fraction(0)
        return max(self.hopes(evaluator, state, steps))

    def cost(self, goal, other, state, locked, steps):
        return self.value(goal, state, goal, locked, steps) - self.value(goal, state, other, locked, steps)

    def naive_choice(self, goal, state, steps):
        hopes = self.hopes(goal, state, steps)
        return hopes.index(max(hopes)) if hopes else None

    def naive_value(self, evaluator, state, goal, locked, steps):
        if steps == 0 or not self.actions[state]:
            return Fraction(0)
        rewards, weights, change, lock = self.actions[state][self.naive_choice(goal, state, steps)]
        if change and not locked:
            goal = change - 1
        found = Fraction(rewards[evaluator])
        for next_state, weight in enumerate(weights):
            if weight:
                later = self.naive_value(evaluator, next_state, goal, locked or lock, steps - 1)
                found += Fraction(weight, sum(weights)) * later
        return found

    def locking(self, goal, steps):
        chosen = [self.chosen(state, goal, 0, steps) for state in range(self.states)]
        return [state for state, number in enumerate(chosen)
                if number is not None and self.actions[state][number][3]]

    def alike(self, goal, other, steps):
        return all(self.chosen(state, goal, 0, step) == self.chosen(state, other, 0, step)
                   for step in range(1, steps + 1) for state in range(self.states))

    def has_twin(self, state, number):
        rewards, weights, _, _ = self.actions[state][number]
        return (rewards, weights, 0, 0) in self.actions[state]

    def without_twin(self):
        return [(state, number) for state in range(self.states) for number, action in enumerate(self.actions[state])
                if action[2] and not self.has_twin(state, number)]

    def twinned(self, state):
        """The same with the twins that this state gets."""
        found = Terms(self.states, self.goals)
        found.actions = [list(actions) for actions in self.actions]
        for number, (rewards, weights, change, _) in enumerate(self.actions[state]):
            if change and not found.has_twin(state, number) and len(found.actions[state]) < 3:
                found.actions[state].append((rewards, weights, 0, 0))
        return found

    def calm(self):
        """The same without the actions that change the goal."""
        found = Terms(self.states, self.goals)
        found.actions = [[action for action in actions if action[2] == 0] for actions in self.actions]
        return found


def made_action(numbers, states, goals, small):
    """An action; small rewards and weights make ties likely."""
    rewards = [numbers.up_to(2) - 1 if small else numbers.up_to(18) - 9 for _ in range(goals)]
    weights = [numbers.up_to(1) if small else numbers.up_to(9) for _ in range(states)]
    if sum(weights) == 0:
        weights[numbers.up_to(states - 1)] = 1
    return (rewards, weights, numbers.up_to(goals), 1 if numbers.up_to(3) == 0 else 0)


def made_process(numbers):
    made = Terms(2 + numbers.up_to(2), 1 + numbers.up_to(2))
    small = numbers.up_to(1) == 1
    for state in range(made.states):
        for _ in range(numbers.up_to(3)):
            made.actions[state].append(made_action(numbers, made.states, made.goals, small))
    return made


def with_twins(numbers):
    """A process in which every action that changes the goal has a twin, ahead of it or behind."""
    made = Terms(2 + numbers.up_to(2), 1 + numbers.up_to(2))
    for state in range(made.states):
        rewards, weights, change, lock = made_action(numbers, made.states, made.goals, numbers.up_to(1) == 1)
        actions = [(rewards, weights, 0, 0)]
        actions.insert(numbers.up_to(1), (rewards, weights, change, lock))
        if numbers.up_to(2) > 0:
            rewards, weights, _, lock = made_action(numbers, made.states, made.goals, False)
            actions.insert(numbers.up_to(2), (rewards, weights, 0, lock))
        made.actions[state] = actions
    return made


def with_likenesses(numbers):
    """A process in which many actions of a state have the same rewards and weights."""
    made = Terms(2 + numbers.up_to(2), 1 + numbers.up_to(2))
    for state in range(made.states):
        for _ in range(numbers.up_to(3)):
            action = made_action(numbers, made.states, made.goals, True)
            if made.actions[state] and numbers.up_to(1) > 0:
                action = made.actions[state][0][:2] + action[2:]
            if numbers.up_to(2) == 0:
                action = action[:2] + (0, action[3])
            made.actions[state].append(action)
    return made


def listed(places):
    """The answer that tells these pairs of a state and a number."""
    return [len(places)] + [number for place in places for number in place]


def fraction(found):
    return [found.numerator, found.denominator]


def situations(made):
    for state in range(made.states):
        for goal in range(made.goals):
            for locked in (0, 1):
                yield state, goal, locked


class AgainstTheTerms(unittest.TestCase):
    def check(self, made, asked):
        """Hold (call, answer) pairs against the program, as many at a time as a list has room for."""
        calls = made.calls()
        room = 60 - len(calls)
        for start in range(0, len(asked), room):
            part = asked[start:start + room]
            self.assertEqual(after(calls, *[call for call, _ in part]), [answer for _, answer in part], calls)

    def test_chosen_actions_and_values(self):
        numbers = Numbers(1)
        for _ in range(150):
            made = made_process(numbers)
            steps = numbers.up_to(3)
            asked = []
            for state, goal, locked in situations(made):
                for evaluator in range(made.goals):
                    found = made.value(evaluator, state, goal, locked, steps)
                    asked.append((value(evaluator, state, goal, locked, steps), [0] + fraction(found)))
                found = made.ideal(goal, state, steps)
                asked.append((ideal_value(goal, state, steps), [0] + fraction(found)))
                if steps > 0:
                    found = made.chosen(state, goal, locked, steps)
                    asked.append((chosen_action(state, goal, locked, steps), [-33 if found is None else found]))
            self.check(made, asked)

    def test_change_costs_and_the_nearest_goal(self):
        numbers = Numbers(2)
        for _ in range(150):
            made = made_process(numbers)
            steps = numbers.up_to(3)
            asked = []
            for state, goal, locked in situations(made):
                costs = [made.cost(goal, other, state, locked, steps) for other in range(made.goals)]
                asked.append((change_costs(goal, state, locked, steps),
                              [made.goals] + [number for cost in costs for number in fraction(cost)]))
                for other, cost in enumerate(costs):
                    asked.append((change_cost(goal, other, state, locked, steps), [0] + fraction(cost)))
                others = [(cost, other) for other, cost in enumerate(costs) if other != goal]
                nearest = [min(others)[1]] + fraction(min(others)[0]) if others else [-33]
                asked.append((nearest_goal(goal, state, locked, steps), nearest))
            self.check(made, asked)

    def test_welcome_goals_and_lock_values(self):
        numbers = Numbers(8)
        for _ in range(150):
            made = made_process(numbers)
            steps = numbers.up_to(3)
            asked = []
            for state, goal, locked in situations(made):
                welcome = [other for other in range(made.goals)
                           if other != goal and made.cost(goal, other, state, locked, steps) <= 0]
                asked.append((welcome_goals(goal, state, locked, steps), [len(welcome)] + welcome))
                found = made.value(goal, state, goal, 1, steps) - made.value(goal, state, goal, 0, steps)
                asked.append((lock_value(goal, state, steps), [0] + fraction(found)))
            self.check(made, asked)

    def test_locking_states_and_same_choices(self):
        numbers = Numbers(9)
        for _ in range(150):
            made = made_process(numbers)
            asked = []
            for goal in range(made.goals):
                for steps in (1, 2, 3):
                    states = made.locking(goal, steps)
                    asked.append((locking_states(goal, steps), [len(states)] + states))
                for other in range(made.goals):
                    for steps in (0, 1, 2, 3):
                        found = 1 if made.alike(goal, other, steps) else 0
                        asked.append((same_choices(goal, other, steps), [found]))
            self.check(made, asked)

    def test_naive_agents(self):
        numbers = Numbers(10)
        for _ in range(150):
            made = made_process(numbers)
            steps = numbers.up_to(3)
            asked = []
            for state, goal, locked in situations(made):
                for evaluator in range(made.goals):
                    found = made.naive_value(evaluator, state, goal, locked, steps)
                    asked.append((naive_value(evaluator, state, goal, locked, steps), [0] + fraction(found)))
                found = made.ideal(goal, state, steps) - made.naive_value(goal, state, goal, locked, steps)
                asked.append((naive_loss(state, goal, locked, steps), [0] + fraction(found)))
                if steps > 0:
                    found = made.naive_choice(goal, state, steps)
                    asked.append((naive_action(goal, state, steps), [-33 if found is None else found]))
            self.check(made, asked)

    def test_twins(self):
        numbers = Numbers(11)
        for _ in range(400):
            made = with_likenesses(numbers)
            calls = made.calls()
            asked = [(actions_without_twin(), listed(made.without_twin()))]
            for state in range(made.states):
                for number in range(len(made.actions[state])):
                    asked.append((has_twin(state, number), [1 if made.has_twin(state, number) else 0]))
            for state in range(made.states):
                more = made.twinned(state)
                asked.append((add_twins(state), [len(more.actions[state]) - len(made.actions[state])]))
                asked.append((actions_without_twin(), listed(more.without_twin())))
                made = more
            self.assertEqual(after(calls, *[call for call, _ in asked]), [answer for _, answer in asked], calls)

    def test_change_losses(self):
        numbers = Numbers(12)
        for _ in range(150):
            made = made_process(numbers)
            calm = made.calm()
            steps = numbers.up_to(3)
            asked = []
            for state in range(made.states):
                for goal in range(made.goals):
                    found = calm.value(goal, state, goal, 0, steps) - made.value(goal, state, goal, 0, steps)
                    asked.append((change_loss(goal, state, steps), [0] + fraction(found)))
            self.check(made, asked)

    def test_four_steps_through_the_greatest_process(self):
        numbers = Numbers(3)
        made = Terms(4, 3)
        for state in range(4):
            for _ in range(3):
                made.actions[state].append(made_action(numbers, 4, 3, False))
        asked = []
        for evaluator, state, goal in ((0, 0, 0), (1, 0, 0), (2, 3, 1)):
            found = made.value(evaluator, state, goal, 0, 4)
            asked.append((value(evaluator, state, goal, 0, 4), [0] + fraction(found)))
            found = made.naive_value(evaluator, state, goal, 0, 4)
            asked.append((naive_value(evaluator, state, goal, 0, 4), [0] + fraction(found)))
        found = made.ideal(2, 1, 4)
        asked.append((ideal_value(2, 1, 4), [0] + fraction(found)))
        found = made.calm().value(1, 0, 1, 0, 4) - made.value(1, 0, 1, 0, 4)
        asked.append((change_loss(1, 0, 4), [0] + fraction(found)))
        self.check(made, asked)


class BeyondSixtyFourBits(unittest.TestCase):
    def test_a_long_numerator_and_denominator(self):
        made = Terms(4, 3)
        made.actions = [
            [([1, -9, 4], [3, 8, 3, 7], 1, 0), ([-8, -4, 2], [7, 9, 4, 7], 2, 0), ([5, -7, 2], [1, 1, 1, 8], 1, 0)],
            [([8, -3, 5], [8, 8, 8, 7], 1, 0), ([9, 9, 1], [4, 5, 5, 5], 3, 0), ([7, 6, -9], [1, 6, 4, 5], 1, 0)],
            [([-8, 5, -5], [8, 7, 7, 7], 2, 0), ([4, -8, 9], [5, 6, 6, 6], 0, 0), ([-3, 3, -2], [6, 4, 3, 5], 1, 0)],
            [([6, -3, 8], [7, 9, 4, 6], 2, 0), ([9, 6, -5], [6, 7, 6, 6], 1, 0), ([1, 5, 1], [3, 6, 4, 4], 1, 0)],
        ]
        found = made.value(1, 0, 1, 0, 4)
        self.assertEqual(after(made.calls(), value(1, 0, 1, 0, 4)), [[0] + fraction(found)])
        self.assertGreater(found.numerator, 2 ** 64)
        self.assertGreater(found.denominator, 2 ** 64)


class Requirements(unittest.TestCase):
    def test_the_draws_have_every_size(self):
        for draw in (made_process, with_twins, with_likenesses):
            numbers = Numbers(4)
            drawn = [draw(numbers) for _ in range(60)]
            self.assertEqual({(made.states, made.goals) for made in drawn},
                             {(states, goals) for states in (2, 3, 4) for goals in (1, 2, 3)})

    def check_with_twins(self, calls, states, goals):
        """Points 1 and 2, for a process in which every action that changes the goal has a twin."""
        self.assertEqual(after(calls, actions_without_twin()), [[0]])
        for state in range(states):
            for goal in range(goals):
                found = after(calls, ideal_value(goal, state, 4), value(goal, state, goal, 0, 4),
                              value(goal, state, goal, 1, 4), change_loss(goal, state, 4),
                              change_costs(goal, state, 0, 4), change_costs(goal, state, 1, 4))
                self.assertEqual(found[1:3], [found[0]] * 2, calls)
                self.assertEqual(found[3], [0, 0, 1], calls)
                self.assertGreaterEqual(min(found[4][1::2] + found[5][1::2]), 0, calls)

    def test_twins_give_ideal_values_and_no_change_pays(self):
        numbers = Numbers(4)
        for _ in range(60):
            made = with_twins(numbers)
            self.check_with_twins(made.calls(), made.states, made.goals)

    def test_twins_that_are_added_do_the_same(self):
        numbers = Numbers(13)
        checked = 0
        for _ in range(120):
            made = with_likenesses(numbers)
            calls = made.calls() + [add_twins(state) for state in range(made.states)]
            if made.without_twin() and after(calls, actions_without_twin()) == [[0]]:
                self.check_with_twins(calls, made.states, made.goals)
                checked += 1
        self.assertGreater(checked, 30)

    def test_with_twins_the_changes_may_as_well_be_removed(self):
        numbers = Numbers(5)
        for _ in range(60):
            made = with_twins(numbers)
            calm = Terms(made.states, made.goals)
            calm.actions = [[action for action in actions if action[2] == 0] for actions in made.actions]
            for state, goal, locked in situations(made):
                asked = value(goal, state, goal, locked, 4)
                self.assertEqual(after(made.calls(), asked), after(calm.calls(), asked))

    def test_a_change_to_the_goal_itself_costs_nothing(self):
        numbers = Numbers(6)
        for _ in range(100):
            made = made_process(numbers)
            for state, goal, locked in situations(made):
                self.assertEqual(after(made.calls(), change_cost(goal, goal, state, locked, 4)), [[0, 0, 1]])

    def test_the_lock_value_is_never_negative(self):
        numbers = Numbers(14)
        greater = 0
        for _ in range(100):
            made = made_process(numbers)
            for state in range(made.states):
                for goal in range(made.goals):
                    found = after(made.calls(), lock_value(goal, state, 4))[0]
                    self.assertGreaterEqual(found[1], 0)
                    greater += found[1] > 0
        self.assertGreater(greater, 0)

    def test_the_naive_value_is_never_greater_than_the_ideal_value(self):
        numbers = Numbers(15)
        smaller = 0
        for _ in range(100):
            made = made_process(numbers)
            for state in range(made.states):
                for goal in range(made.goals):
                    ideal, free, locked, loss, locked_loss = after(
                        made.calls(), ideal_value(goal, state, 4), naive_value(goal, state, goal, 0, 4),
                        naive_value(goal, state, goal, 1, 4), naive_loss(state, goal, 0, 4),
                        naive_loss(state, goal, 1, 4))
                    expected = Fraction(*ideal[1:]) - Fraction(*free[1:])
                    self.assertGreaterEqual(expected, 0)
                    self.assertEqual(loss, [0] + fraction(expected))
                    self.assertEqual(locked, ideal)
                    self.assertEqual(locked_loss, [0, 0, 1])
                    smaller += expected > 0
        self.assertGreater(smaller, 0)

    def test_directly_after_add_twins_there_are_twins_if_there_was_room(self):
        numbers = Numbers(16)
        cases = set()
        for _ in range(200):
            made = with_likenesses(numbers)
            for state, actions in enumerate(made.actions):
                lacking = {tuple(rewards + weights) for number, (rewards, weights, change, _) in enumerate(actions)
                           if change and not made.has_twin(state, number)}
                room = 3 - len(actions)
                asked = [has_twin(state, number) for number, action in enumerate(actions) if action[2]]
                found = after(made.calls(), add_twins(state), *asked)
                self.assertEqual(found[0], [min(room, len(lacking))])
                self.assertEqual(found[1:].count([0]) > 0, len(lacking) > room)
                cases.add((len(lacking), room))
        self.assertLessEqual({(0, 1), (1, 0), (1, 1), (1, 2), (2, 0), (2, 1), (3, 0)}, cases)

    def test_a_twin_that_is_added_neither_changes_nor_locks(self):
        numbers = Numbers(17)
        for _ in range(100):
            made = with_likenesses(numbers)
            for state, actions in enumerate(made.actions):
                more = made.twinned(state).actions[state][len(actions):]
                asked = [part for number in range(len(actions), len(actions) + len(more))
                         for part in (set_goal_change(state, number, 0), set_lock(state, number, 0))]
                remaining = len(actions) + len(more) - 1
                found = after(made.calls(), add_twins(state), *asked, remove_action(state, 0))
                self.assertEqual(found[1:-1], [[0]] * len(asked))
                self.assertEqual(found[-1], [remaining] if actions else [-2])

    def test_no_other_goal_is_nearer_than_the_nearest(self):
        numbers = Numbers(7)
        for _ in range(100):
            made = made_process(numbers)
            if made.goals == 1:
                continue
            for state, goal, locked in situations(made):
                costs, nearest = after(made.calls(), change_costs(goal, state, locked, 4),
                                       nearest_goal(goal, state, locked, 4))
                for other in range(made.goals):
                    if other != goal:
                        cost = Fraction(costs[1 + 2 * other], costs[2 + 2 * other])
                        self.assertLessEqual(Fraction(nearest[1], nearest[2]), cost)


if __name__ == "__main__":
    unittest.main()
