"""The calls 11 to 13 and 21: welcome goals, locks, and goals that choose alike."""

import unittest

from tests.helper import (
    EXAMPLE, MOST, THREE_GOALS, add_action, after, ask, change_costs, chosen_action, create, last, lock_value,
    locking_states, remove_action, same_choices, set_goal_change, set_lock, value, welcome_goals,
)


class WelcomeGoals(unittest.TestCase):
    def test_none(self):
        found = after(THREE_GOALS, *[welcome_goals(goal, 1, locked, 1) for goal in range(3) for locked in (0, 1)])
        self.assertEqual(found, [[0]] * 6)

    def test_some(self):
        calls = [create(2, 3), add_action(0, [5, 5, 0, 1, 1]), add_action(0, [0, 0, 5, 1, 1])]
        self.assertEqual(after(calls, *[welcome_goals(goal, 0, 0, 1) for goal in range(3)]), [[1, 1], [1, 0], [0]])

    def test_all_in_increasing_order_and_never_the_goal_itself(self):
        found = after(THREE_GOALS, *[welcome_goals(goal, 0, 1, 1) for goal in range(3)])
        self.assertEqual(found, [[2, 1, 2], [2, 0, 2], [2, 0, 1]])

    def test_a_goal_that_chooses_otherwise_may_cost_nothing(self):
        calls = [create(2, 2), add_action(0, [1, 0, 1, 1]), add_action(0, [1, 9, 1, 1])]
        self.assertEqual(after(calls, welcome_goals(0, 0, 0, 1), welcome_goals(1, 0, 0, 1)), [[1, 1], [0]])

    def test_the_smallest_cost_above_zero_is_not_welcome(self):
        calls = [create(4, 2), add_action(0, [0, 0, 9, 9, 9, 8]), add_action(1, [1, 0, 1, 0, 0, 0]),
                 add_action(1, [0, 1, 1, 0, 0, 0])]
        self.assertEqual(after(calls, change_costs(0, 0, 0, 2), welcome_goals(0, 0, 0, 2)),
                         [[2, 0, 1, 9, 35], [0]])

    def test_locked_or_not(self):
        calls = THREE_GOALS + [set_goal_change(0, 0, 3)]
        self.assertEqual(after(calls, welcome_goals(0, 0, 0, 2), welcome_goals(0, 0, 1, 2)), [[2, 1, 2], [0]])

    def test_one_goal_alone(self):
        self.assertEqual(ask(create(2, 1), add_action(0, [1, 1, 1]), welcome_goals(0, 0, 0, 4))[2:], [[0]])

    def test_no_steps_and_no_actions(self):
        self.assertEqual(after(THREE_GOALS, welcome_goals(1, 1, 0, 0)), [[2, 0, 2]])
        self.assertEqual(last(create(2, 2), welcome_goals(1, 0, 1, 4)), [1, 0])

    def test_order_of_errors(self):
        for goal, state in ((3, 0), (0, 2), (MOST, 0), (0, MOST), (3, 2)):
            for locked, steps in ((0, 1), (2, 1), (0, 5), (2, 5)):
                self.assertEqual(after(THREE_GOALS, welcome_goals(goal, state, locked, steps)), [[-2]])
        for locked, steps in ((2, 1), (MOST, 0), (0, 5), (1, MOST), (2, 5)):
            self.assertEqual(after(THREE_GOALS, welcome_goals(0, 0, locked, steps)), [[-22]])


class LockValue(unittest.TestCase):
    # State 0 gives the goal 1 on the way; 2 of 3 times the way leads to state 1.
    CHANGED_ON_THE_WAY = [
        create(2, 2),
        add_action(0, [0, 0, 1, 2]),
        add_action(1, [5, 0, 0, 1]),
        add_action(1, [0, 5, 0, 1]),
        set_goal_change(0, 0, 2),
    ]

    def test_what_the_change_would_have_cost(self):
        self.assertEqual(after(EXAMPLE, lock_value(0, 0, 1), lock_value(0, 0, 2)), [[0, 0, 1], [0, 1, 1]])
        self.assertEqual(after(EXAMPLE + [remove_action(0, 1)], lock_value(0, 0, 2)), [[0, 5, 1]])

    def test_fractions(self):
        self.assertEqual(after(self.CHANGED_ON_THE_WAY, lock_value(0, 0, 2), lock_value(0, 0, 3)),
                         [[0, 10, 3], [0, 70, 9]])

    def test_a_change_to_the_goal_that_the_agent_has(self):
        self.assertEqual(after(self.CHANGED_ON_THE_WAY, lock_value(1, 0, 4)), [[0, 0, 1]])

    def test_an_action_that_locks_by_itself(self):
        self.assertEqual(after(EXAMPLE, set_goal_change(0, 0, 0), set_lock(0, 0, 1), lock_value(0, 0, 2)),
                         [[2], [0], [0, 0, 1]])

    def test_no_steps_and_no_actions(self):
        self.assertEqual(after(self.CHANGED_ON_THE_WAY, lock_value(0, 0, 0)), [[0, 0, 1]])
        self.assertEqual(last(create(2, 1), lock_value(0, 1, 4)), [0, 0, 1])

    def test_order_of_errors(self):
        for goal, state in ((2, 0), (0, 2), (MOST, 0), (0, MOST), (2, 2)):
            for steps in (0, 4, 5, MOST):
                self.assertEqual(after(EXAMPLE, lock_value(goal, state, steps)), [[-2]])
        for steps in (5, MOST):
            self.assertEqual(after(EXAMPLE, lock_value(0, 0, steps)), [[-22]])


class LockingStates(unittest.TestCase):
    MIXED = [
        create(3, 2),
        add_action(0, [1, 0, 1, 1, 1]),
        add_action(0, [0, 1, 1, 1, 1]),
        add_action(1, [0, 0, 1, 1, 1]),
        set_lock(0, 1, 1),
        set_lock(1, 0, 1),
    ]

    def test_the_chosen_action_counts(self):
        self.assertEqual(after(self.MIXED, locking_states(0, 1), locking_states(1, 1)), [[1, 1], [2, 0, 1]])

    def test_an_action_that_locks_and_changes_at_once(self):
        self.assertEqual(after(self.MIXED, set_goal_change(1, 0, 2), locking_states(0, 1)), [[0], [1, 1]])

    def test_none_and_all(self):
        self.assertEqual(last(*THREE_GOALS, locking_states(2, 4)), [0])
        self.assertEqual(last(create(4, 1), locking_states(0, 1)), [0])
        calls = [create(4, 1)]
        for state in (3, 1, 0, 2):
            calls += [add_action(state, [-9, 1, 1, 1, 1]), set_lock(state, 0, 1)]
        self.assertEqual(last(*calls, locking_states(0, 4)), [4, 0, 1, 2, 3])

    def test_ties_go_to_the_smallest_number(self):
        twice = [create(2, 1), add_action(0, [1, 1, 1]), add_action(0, [1, 1, 1])]
        self.assertEqual(after(twice, set_lock(0, 1, 1), locking_states(0, 1)), [[0], [0]])
        self.assertEqual(after(twice, set_lock(0, 0, 1), locking_states(0, 1)), [[0], [1, 0]])

    def test_it_locks_when_there_is_something_to_guard(self):
        # State 1 gives the goal 1 on the way to state 2. A locked goal would pick action 0.
        calls = [
            create(3, 2),
            add_action(0, [1, 0, 0, 1, 0]),
            add_action(0, [0, 0, 0, 1, 0]),
            add_action(1, [0, 0, 0, 0, 1]),
            add_action(2, [9, 0, 0, 0, 1]),
            add_action(2, [0, 9, 0, 0, 1]),
            set_lock(0, 1, 1),
            set_goal_change(1, 0, 2),
        ]
        self.assertEqual(after(calls, *[locking_states(0, steps) for steps in (1, 2, 3, 4)]),
                         [[0], [0], [1, 0], [1, 0]])
        self.assertEqual(after(calls, chosen_action(0, 0, 1, 3), locking_states(1, 3)), [[0], [0]])

    def test_steps(self):
        found = after(self.MIXED, *[locking_states(0, steps) for steps in (0, 1, 4, 5, MOST)])
        self.assertEqual([answer[0] for answer in found], [-22, 1, 1, -22, -22])
        self.assertEqual([len(answer) for answer in found], [1, 2, 2, 1, 1])

    def test_order_of_errors(self):
        for goal in (2, 3, MOST):
            for steps in (0, 1, 4, 5, MOST):
                self.assertEqual(after(self.MIXED, locking_states(goal, steps)), [[-2]])


class SameChoices(unittest.TestCase):
    def test_goals_that_differ(self):
        self.assertEqual(after(EXAMPLE, same_choices(0, 1, 1), same_choices(1, 0, 1), same_choices(0, 1, 4)), [[0]] * 3)

    def test_goals_that_choose_alike_without_being_alike(self):
        calls = [create(2, 2), add_action(0, [5, 2, 1, 1]), add_action(0, [-1, -7, 1, 1])]
        self.assertEqual(after(calls, *[same_choices(0, 1, steps) for steps in range(5)]), [[1]] * 5)

    def test_no_steps(self):
        self.assertEqual(after(EXAMPLE, same_choices(0, 1, 0), same_choices(1, 1, 0)), [[1], [1]])

    def test_the_same_goal_twice(self):
        for goal in range(3):
            self.assertEqual(after(THREE_GOALS, same_choices(goal, goal, 4)), [[1]])
        self.assertEqual(last(create(2, 1), add_action(0, [1, 1, 1]), same_choices(0, 0, 4)), [1])

    def test_states_without_actions_make_no_difference(self):
        self.assertEqual(last(create(4, 3), same_choices(0, 2, 4)), [1])
        self.assertEqual(last(create(3, 2), add_action(1, [7, -7, 1, 1, 1]), same_choices(0, 1, 4)), [1])

    def test_every_state_counts(self):
        for state in range(4):
            calls = [create(4, 2), add_action(state, [1, 0, 1, 1, 1, 1]), add_action(state, [0, 1, 1, 1, 1, 1])]
            self.assertEqual(after(calls, same_choices(0, 1, 1)), [[0]])

    def test_a_difference_that_comes_with_more_steps(self):
        calls = [create(2, 2), add_action(0, [0, 0, 1, 0]), add_action(0, [0, 0, 0, 1]), add_action(1, [0, 3, 0, 1])]
        self.assertEqual(after(calls, *[same_choices(0, 1, steps) for steps in range(5)]), [[1], [1], [0], [0], [0]])

    def test_a_difference_that_goes_with_more_steps_still_counts(self):
        calls = [create(2, 2), add_action(0, [1, 0, 1, 0]), add_action(0, [0, 1, 0, 1]), add_action(1, [9, 9, 0, 1])]
        found = after(calls, chosen_action(0, 0, 0, 2), chosen_action(0, 1, 0, 2), same_choices(0, 1, 2))
        self.assertEqual(found, [[1], [1], [0]])

    def test_the_goals_are_not_locked(self):
        # Action 0 of state 0 gives the goal 2. Only goal 0 minds what goal 2 does in state 1.
        calls = [
            create(2, 3),
            add_action(0, [3, 3, 0, 0, 1]),
            add_action(0, [0, 0, 0, 0, 1]),
            add_action(1, [5, 5, 0, 0, 1]),
            add_action(1, [0, 4, 5, 0, 1]),
            set_goal_change(0, 0, 3),
        ]
        self.assertEqual(after(calls, chosen_action(0, 0, 1, 2), chosen_action(0, 1, 1, 2), same_choices(0, 1, 1),
                               same_choices(0, 1, 2), set_goal_change(0, 0, 0), same_choices(0, 1, 4)),
                         [[0], [0], [1], [0], [3], [1]])

    def test_order_of_errors(self):
        for goal, other in ((2, 0), (0, 2), (MOST, 0), (0, MOST), (2, 2)):
            for steps in (0, 4, 5, MOST):
                self.assertEqual(after(EXAMPLE, same_choices(goal, other, steps)), [[-2]])
        for steps in (5, MOST):
            self.assertEqual(after(EXAMPLE, same_choices(0, 0, steps), same_choices(0, 1, steps)), [[-22], [-22]])


class Questions(unittest.TestCase):
    def test_they_change_nothing(self):
        once = [welcome_goals(0, 0, 0, 3), lock_value(0, 0, 3), locking_states(0, 3), same_choices(0, 1, 3),
                value(0, 0, 0, 0, 3), chosen_action(0, 0, 0, 3)]
        found = after(EXAMPLE, *once, *once)
        self.assertEqual(found[:6], found[6:])


if __name__ == "__main__":
    unittest.main()
