"""The calls 14 to 16: agents that assume that their goal never changes."""

import unittest

from tests.helper import (
    EXAMPLE, MOST, THREE_GOALS, add_action, after, ask, chosen_action, create, ideal_value, last, naive_action,
    naive_loss, naive_value, remove_action, set_goal_change, set_lock, value,
)

# State 0 gives the goal 1. In state 1, action 0 gives the goal 0, which goal 1 has
# to fear in state 2: a naive agent takes it, a sophisticated one doesn't.
NAIVE_TWICE = [
    create(3, 2),
    add_action(0, [0, 0, 0, 1, 0]),
    add_action(1, [0, 4, 0, 0, 1]),
    add_action(1, [1, 3, 0, 0, 1]),
    add_action(2, [5, 0, 0, 0, 1]),
    add_action(2, [0, 5, 0, 0, 1]),
    set_goal_change(0, 0, 2),
    set_goal_change(1, 0, 1),
]


class NaiveAction(unittest.TestCase):
    def test_it_does_not_fear_the_change(self):
        found = after(EXAMPLE, naive_action(0, 0, 2), chosen_action(0, 0, 0, 2), naive_action(1, 0, 2))
        self.assertEqual(found, [[0], [1], [1]])

    def test_the_first_of_the_greatest(self):
        tied = [create(2, 1)] + [add_action(0, [n, 1, 1]) for n in (2, 3, 3)]
        self.assertEqual(after(tied, naive_action(0, 0, 1), remove_action(0, 0), naive_action(0, 0, 1)),
                         [[1], [2], [0]])

    def test_a_tie_for_the_naive_agent_alone(self):
        # By goal 0 both actions seem worth 5, though the first one gives the goal 1.
        calls = [create(2, 2), add_action(0, [0, 0, 0, 1]), add_action(0, [0, 0, 0, 1]), add_action(1, [5, 0, 0, 1]),
                 add_action(1, [0, 5, 0, 1]), set_goal_change(0, 0, 2)]
        self.assertEqual(after(calls, naive_action(0, 0, 2), chosen_action(0, 0, 0, 2)), [[0], [1]])

    def test_more_steps_see_further(self):
        calls = [create(2, 1), add_action(0, [1, 1, 0]), add_action(0, [0, 0, 1]), add_action(1, [3, 0, 1])]
        self.assertEqual(after(calls, *[naive_action(0, 0, steps) for steps in (1, 2, 3, 4)]), [[0], [1], [1], [1]])

    def test_a_lock_makes_no_difference(self):
        for number in range(2):
            self.assertEqual(after(EXAMPLE, set_lock(0, number, 1), naive_action(0, 0, 2)), [[0], [0]])

    def test_the_third_action(self):
        calls = [create(2, 1)] + [add_action(1, [n, 1, 1]) for n in (-3, -2, -1)]
        self.assertEqual(after(calls, naive_action(0, 1, 4)), [[2]])

    def test_steps(self):
        found = after(EXAMPLE, *[naive_action(0, 0, steps) for steps in (0, 1, 4, 5, MOST)])
        self.assertEqual(found, [[-22], [0], [0], [-22], [-22]])

    def test_no_actions(self):
        calls = [create(2, 1), add_action(0, [1, 1, 1])]
        self.assertEqual(after(calls, naive_action(0, 1, 1), remove_action(0, 0), naive_action(0, 0, 4)),
                         [[-33], [0], [-33]])

    def test_order_of_errors(self):
        empty = [create(3, 2)]
        for goal, state in ((2, 0), (0, 3), (MOST, 0), (0, MOST), (2, 3)):
            for steps in (0, 1, 4, 5, MOST):
                self.assertEqual(after(empty, naive_action(goal, state, steps)), [[-2]])
        for steps in (0, 5, MOST):
            self.assertEqual(after(empty, naive_action(1, 2, steps)), [[-22]])
        self.assertEqual(after(empty, naive_action(1, 2, 1)), [[-33]])


class NaiveValue(unittest.TestCase):
    def test_the_goal_that_changes_unawares(self):
        found = after(EXAMPLE, naive_value(0, 0, 0, 0, 2), naive_value(1, 0, 0, 0, 2), naive_value(0, 0, 1, 0, 2),
                      naive_value(1, 0, 1, 0, 2))
        self.assertEqual(found, [[0, 4, 1], [0, 6, 1], [0, 3, 1], [0, 7, 1]])

    def test_a_locked_goal_is_ideal_for_itself(self):
        found = after(EXAMPLE, naive_value(0, 0, 0, 1, 2), ideal_value(0, 0, 2), naive_value(1, 0, 0, 1, 2),
                      naive_value(1, 0, 1, 1, 2), ideal_value(1, 0, 2))
        self.assertEqual(found, [[0, 9, 1], [0, 9, 1], [0, 0, 1], [0, 7, 1], [0, 7, 1]])

    def test_later_agents_are_naive_again_with_their_own_goal(self):
        found = after(NAIVE_TWICE, naive_value(0, 0, 0, 0, 3), naive_value(1, 0, 0, 0, 3), value(0, 0, 0, 0, 3),
                      value(1, 0, 0, 0, 3), naive_value(0, 0, 0, 1, 3), naive_value(1, 0, 0, 1, 3))
        self.assertEqual(found, [[0, 5, 1], [0, 4, 1], [0, 1, 1], [0, 8, 1], [0, 6, 1], [0, 3, 1]])

    def test_a_lock_on_the_way(self):
        # With goal 0 locked in state 0, state 1 is passed with goal 0.
        calls = NAIVE_TWICE + [set_goal_change(0, 0, 0)]
        found = after(calls, naive_value(1, 0, 1, 0, 3), set_lock(0, 0, 1), naive_value(1, 0, 1, 0, 3))
        self.assertEqual(found, [[0, 4, 1], [0], [0, 9, 1]])

    def test_an_action_that_locks_and_changes_at_once(self):
        # The goal 1 that state 0 gives is locked, so that state 1 can't give 0 back.
        found = after(NAIVE_TWICE, set_lock(0, 0, 1), naive_value(0, 0, 0, 0, 3), naive_value(1, 0, 0, 0, 3))
        self.assertEqual(found, [[0], [0, 0, 1], [0, 9, 1]])

    def test_a_change_to_the_goal_that_the_agent_has(self):
        found = after(EXAMPLE, set_goal_change(0, 0, 1), naive_value(0, 0, 0, 0, 2))
        self.assertEqual(found, [[2], [0, 9, 1]])

    def test_fractions(self):
        calls = [create(2, 2), add_action(0, [-1, 0, 1, 2]), set_goal_change(0, 0, 2), add_action(1, [5, 0, 0, 1]),
                 add_action(1, [0, 5, 0, 1])]
        found = after(calls, naive_value(0, 0, 0, 0, 2), naive_value(1, 0, 0, 0, 2), naive_value(0, 0, 0, 1, 2))
        self.assertEqual(found, [[0, -4, 3], [0, 10, 3], [0, 2, 1]])

    def test_no_steps_and_no_actions(self):
        self.assertEqual(after(EXAMPLE, naive_value(0, 0, 0, 0, 0), naive_value(1, 1, 1, 1, 0)), [[0, 0, 1]] * 2)
        calls = [create(2, 1), add_action(0, [5, 0, 1])]
        self.assertEqual(after(calls, naive_value(0, 1, 0, 0, 4), naive_value(0, 0, 0, 0, 4)), [[0, 0, 1], [0, 5, 1]])

    def test_steps(self):
        calls = [create(2, 1), add_action(0, [1, 1, 0])]
        found = after(calls, *[naive_value(0, 0, 0, 0, steps) for steps in (0, 1, 2, 3, 4, 5, MOST)])
        self.assertEqual(found, [[0, 0, 1], [0, 1, 1], [0, 2, 1], [0, 3, 1], [0, 4, 1], [-22], [-22]])

    def test_order_of_errors(self):
        for evaluator, state, goal in ((2, 0, 0), (0, 2, 0), (0, 0, 2), (MOST, 0, 0), (0, MOST, 0), (0, 0, MOST)):
            for locked, steps in ((0, 1), (2, 1), (0, 5), (2, 5)):
                self.assertEqual(after(EXAMPLE, naive_value(evaluator, state, goal, locked, steps)), [[-2]])
        for locked, steps in ((2, 1), (MOST, 0), (0, 5), (1, MOST), (2, 5)):
            self.assertEqual(after(EXAMPLE, naive_value(0, 0, 0, locked, steps)), [[-22]])


class NaiveLoss(unittest.TestCase):
    def test_what_the_unawares_change_costs(self):
        self.assertEqual(after(EXAMPLE, naive_loss(0, 0, 0, 1), naive_loss(0, 0, 0, 2), naive_loss(0, 1, 0, 2)),
                         [[0, 0, 1], [0, 5, 1], [0, 0, 1]])

    def test_a_locked_goal_loses_nothing(self):
        self.assertEqual(after(EXAMPLE, naive_loss(0, 0, 1, 2), naive_loss(0, 1, 1, 4)), [[0, 0, 1]] * 2)

    def test_naive_again(self):
        # By goal 1 in state 1: 9 is ideal, 4 is what the naive agent gets.
        self.assertEqual(after(NAIVE_TWICE, naive_loss(1, 1, 0, 2), naive_loss(0, 0, 0, 3)), [[0, 5, 1], [0, 1, 1]])

    def test_fractions(self):
        calls = [create(2, 2), add_action(0, [0, 0, 1, 2]), set_goal_change(0, 0, 2), add_action(1, [5, 0, 0, 1]),
                 add_action(1, [0, 5, 0, 1])]
        self.assertEqual(after(calls, naive_loss(0, 0, 0, 2), naive_loss(0, 0, 0, 3), naive_loss(0, 1, 0, 3)),
                         [[0, 10, 3], [0, 70, 9], [0, 0, 1]])

    def test_no_steps_and_no_actions(self):
        self.assertEqual(after(EXAMPLE, naive_loss(0, 0, 0, 0)), [[0, 0, 1]])
        self.assertEqual(last(create(2, 1), naive_loss(1, 0, 0, 4)), [0, 0, 1])

    def test_the_state_comes_first(self):
        self.assertEqual(ask(create(4, 1), naive_loss(3, 0, 0, 1), naive_loss(0, 3, 0, 1))[1:], [[0, 0, 1], [-2]])

    def test_order_of_errors(self):
        for state, goal in ((2, 0), (0, 3), (MOST, 0), (0, MOST), (2, 3)):
            for locked, steps in ((0, 1), (2, 1), (0, 5), (2, 5)):
                self.assertEqual(after(THREE_GOALS, naive_loss(state, goal, locked, steps)), [[-2]])
        for locked, steps in ((2, 1), (MOST, 0), (0, 5), (1, MOST), (2, 5)):
            self.assertEqual(after(THREE_GOALS, naive_loss(0, 0, locked, steps)), [[-22]])


class Questions(unittest.TestCase):
    def test_they_change_nothing(self):
        once = [naive_action(0, 0, 3), naive_value(1, 0, 0, 0, 3), naive_loss(0, 0, 0, 3), value(0, 0, 0, 0, 3)]
        found = after(NAIVE_TWICE, *once, *once)
        self.assertEqual(found[:4], found[4:])


if __name__ == "__main__":
    unittest.main()
