"""The calls 5 to 10: chosen actions, values and change costs."""

import unittest

from tests.helper import (
    EXAMPLE, MOST, THREE_GOALS, add_action, after, ask, change_cost, change_costs, chosen_action, create, ideal_value,
    nearest_goal, remove_action, set_goal_change, set_lock, value,
)


class ChosenAction(unittest.TestCase):
    def test_the_present_goal_chooses(self):
        self.assertEqual(after(EXAMPLE, chosen_action(1, 0, 0, 1), chosen_action(1, 1, 0, 1)), [[0], [1]])

    def test_ties_go_to_the_smallest_number(self):
        tied = [create(2, 1)] + [add_action(0, [n, 1, 1]) for n in (2, 3, 3)]
        self.assertEqual(after(tied, chosen_action(0, 0, 0, 1), remove_action(0, 0), chosen_action(0, 0, 0, 1)),
                         [[1], [2], [0]])

    def test_only_one_action_with_a_loss(self):
        self.assertEqual(ask(create(2, 1), add_action(0, [-9, 1, 1]), chosen_action(0, 0, 0, 4))[2:], [[0]])

    def test_more_steps_see_further(self):
        calls = [create(2, 1), add_action(0, [1, 1, 0]), add_action(0, [0, 0, 1]), add_action(1, [3, 0, 1])]
        found = after(calls, *[chosen_action(0, 0, 0, steps) for steps in (1, 2, 3, 4)])
        self.assertEqual(found, [[0], [1], [1], [1]])

    def test_a_locked_goal_does_not_fear_the_change(self):
        self.assertEqual(after(EXAMPLE, chosen_action(0, 0, 0, 2), chosen_action(0, 0, 1, 2)), [[1], [0]])

    def test_the_third_action(self):
        calls = [create(2, 1)] + [add_action(1, [n, 1, 1]) for n in (-3, -2, -1)]
        self.assertEqual(after(calls, chosen_action(1, 0, 1, 1)), [[2]])

    def test_no_actions(self):
        self.assertEqual(ask(create(2, 1), add_action(0, [1, 1, 1]), chosen_action(1, 0, 0, 1))[2:], [[-33]])
        self.assertEqual(ask(create(2, 1), add_action(0, [1, 1, 1]), remove_action(0, 0), chosen_action(0, 0, 1, 4))[3:],
                         [[-33]])

    def test_steps(self):
        found = after(EXAMPLE, *[chosen_action(0, 0, 0, steps) for steps in (0, 1, 4, 5, MOST)])
        self.assertEqual(found, [[-22], [0], [1], [-22], [-22]])

    def test_order_of_errors(self):
        empty = [create(2, 2)]
        for state, goal in ((2, 0), (0, 2), (MOST, 0), (0, MOST), (2, 2)):
            for locked, steps in ((0, 1), (2, 1), (0, 0), (0, 5), (2, 5)):
                self.assertEqual(after(empty, chosen_action(state, goal, locked, steps)), [[-2]])
        for locked, steps in ((2, 1), (MOST, 1), (0, 0), (1, 5), (2, 0), (0, MOST)):
            self.assertEqual(after(empty, chosen_action(0, 0, locked, steps)), [[-22]])
        self.assertEqual(after(empty, chosen_action(0, 0, 0, 1)), [[-33]])


class Value(unittest.TestCase):
    def test_no_steps(self):
        self.assertEqual(after(EXAMPLE, value(0, 0, 0, 0, 0), value(1, 1, 1, 1, 0)), [[0, 0, 1], [0, 0, 1]])

    def test_a_state_without_actions(self):
        calls = [create(2, 1), add_action(0, [5, 0, 1])]
        self.assertEqual(after(calls, *[value(0, 1, 0, 0, steps) for steps in range(5)]), [[0, 0, 1]] * 5)
        self.assertEqual(after(calls, *[value(0, 0, 0, 0, steps) for steps in range(5)]), [[0, 0, 1]] + [[0, 5, 1]] * 4)

    def test_the_evaluator_does_not_choose(self):
        found = after(EXAMPLE, value(0, 1, 0, 0, 1), value(0, 1, 1, 0, 1), value(1, 1, 0, 0, 1), value(1, 1, 1, 0, 1))
        self.assertEqual(found, [[0, 5, 1], [0, 0, 1], [0, 0, 1], [0, 6, 1]])

    def test_later_actions_are_chosen_by_the_later_goal(self):
        alone = EXAMPLE + [remove_action(0, 1)]
        found = after(alone, value(0, 0, 0, 0, 2), value(1, 0, 0, 0, 2), value(0, 0, 0, 1, 2), value(1, 0, 0, 1, 2))
        self.assertEqual(found, [[0, 4, 1], [0, 6, 1], [0, 9, 1], [0, 0, 1]])

    def test_a_change_while_the_goal_is_locked(self):
        found = after(EXAMPLE, value(0, 0, 0, 0, 2), value(0, 0, 0, 1, 2))
        self.assertEqual(found, [[0, 8, 1], [0, 9, 1]])

    def test_an_action_that_locks_guards_the_goal(self):
        # 1 step in state 0 leads to state 1, which changes the goal on the way to state 2.
        calls = [
            create(3, 2),
            add_action(0, [0, 0, 0, 1, 0]),
            add_action(1, [0, 0, 0, 0, 1]),
            add_action(2, [5, 0, 0, 0, 1]),
            add_action(2, [0, 5, 0, 0, 1]),
            set_goal_change(1, 0, 2),
        ]
        self.assertEqual(after(calls, value(0, 0, 0, 0, 3), set_lock(0, 0, 1), value(0, 0, 0, 0, 3)),
                         [[0, 0, 1], [0], [0, 5, 1]])

    def test_an_action_that_changes_and_locks_does_both(self):
        # The goal 1 that state 0 gives is locked, so that state 1 can't give 0 back.
        calls = [
            create(3, 2),
            add_action(0, [0, 0, 0, 1, 0]),
            add_action(1, [0, 0, 0, 0, 1]),
            add_action(2, [5, 0, 0, 0, 1]),
            add_action(2, [0, 7, 0, 0, 1]),
            set_goal_change(0, 0, 2),
            set_goal_change(1, 0, 1),
        ]
        found = after(calls, value(0, 0, 0, 0, 3), value(1, 0, 0, 0, 3), set_lock(0, 0, 1), value(0, 0, 0, 0, 3),
                      value(1, 0, 0, 0, 3))
        self.assertEqual(found, [[0, 5, 1], [0, 0, 1], [0], [0, 0, 1], [0, 7, 1]])

    def test_a_change_to_each_goal(self):
        calls = [create(2, 3), add_action(0, [0, 0, 0, 0, 1])]
        for goal in range(3):
            rewards = [1, 2, 3]
            rewards[goal] = 9
            calls.append(add_action(1, rewards + [0, 1]))
        # By goal 0, the three goals choose in state 1 what is worth 9, 1 and 1.
        expected = {0: [0, 9, 1], 1: [0, 9, 1], 2: [0, 1, 1], 3: [0, 1, 1]}
        for change in range(4):
            self.assertEqual(after(calls, set_goal_change(0, 0, change), value(0, 0, 0, 0, 2)), [[0], expected[change]])

    def test_a_change_taken_back(self):
        found = after(EXAMPLE, set_goal_change(0, 0, 0), value(0, 0, 0, 0, 2))
        self.assertEqual(found, [[2], [0, 9, 1]])

    def test_a_lock_taken_back(self):
        self.assertEqual(after(EXAMPLE, set_lock(0, 1, 1), set_lock(0, 1, 0), value(0, 0, 0, 0, 2)),
                         [[0], [1], [0, 8, 1]])

    def test_a_tie_for_the_chooser_is_decided_by_number_not_by_the_evaluator(self):
        calls = [create(2, 2), add_action(0, [1, 0, 1, 1]), add_action(0, [1, 9, 1, 1])]
        self.assertEqual(after(calls, value(1, 0, 0, 0, 1)), [[0, 0, 1]])

    def test_lowest_terms(self):
        calls = [create(2, 1), add_action(0, [1, 4, 2]), add_action(1, [0, 0, 1])]
        self.assertEqual(after(calls, value(0, 0, 0, 0, 2), value(0, 0, 0, 0, 3)), [[0, 5, 3], [0, 19, 9]])

    def test_a_negative_fraction(self):
        calls = [create(2, 1), add_action(0, [-1, 3, 6]), add_action(1, [0, 0, 1])]
        self.assertEqual(after(calls, value(0, 0, 0, 0, 2), value(0, 0, 0, 0, 3)), [[0, -4, 3], [0, -13, 9]])

    def test_a_zero_out_of_fractions(self):
        calls = [create(2, 1), add_action(0, [-1, 1, 2]), add_action(1, [2, 1, 1]), remove_action(1, 0),
                 add_action(1, [2, 0, 1])]
        # -1 + (1 * -1 + 2 * 2) / 3
        self.assertEqual(after(calls, value(0, 0, 0, 0, 2)), [[0, 0, 1]])

    def test_least_and_greatest_values(self):
        for reward in (-9, 9):
            calls = [create(4, 3)]
            for state in range(4):
                calls.append(add_action(state, [reward] * 3 + [9, 9, 9, 9]))
            self.assertEqual(after(calls, value(2, 3, 2, 1, 4)), [[0, 4 * reward, 1]])

    def test_a_weight_for_every_state(self):
        calls = [create(4, 1), add_action(0, [0, 1, 2, 3, 4])]
        for state in (1, 2, 3):
            calls.append(add_action(state, [state, 0, 0, 0, 1]))
        self.assertEqual(after(calls, value(0, 0, 0, 0, 2)), [[0, 2, 1]])
        self.assertEqual(after(calls, remove_action(2, 0), value(0, 0, 0, 0, 2)), [[0], [0, 7, 5]])

    def test_steps(self):
        calls = [create(2, 1), add_action(0, [1, 1, 0])]
        found = after(calls, *[value(0, 0, 0, 0, steps) for steps in (0, 1, 2, 3, 4, 5, MOST)])
        self.assertEqual(found, [[0, 0, 1], [0, 1, 1], [0, 2, 1], [0, 3, 1], [0, 4, 1], [-22], [-22]])

    def test_order_of_errors(self):
        for evaluator, state, goal in ((2, 0, 0), (0, 2, 0), (0, 0, 2), (MOST, 0, 0), (0, MOST, 0), (0, 0, MOST)):
            for locked, steps in ((0, 1), (2, 1), (0, 5)):
                self.assertEqual(after(EXAMPLE, value(evaluator, state, goal, locked, steps)), [[-2]])
        for locked, steps in ((2, 1), (MOST, 0), (0, 5), (2, 5)):
            self.assertEqual(after(EXAMPLE, value(0, 0, 0, locked, steps)), [[-22]])


class IdealValue(unittest.TestCase):
    def test_as_if_the_evaluator_chose_everything(self):
        found = after(EXAMPLE, ideal_value(0, 0, 2), ideal_value(1, 0, 2), ideal_value(0, 1, 2), ideal_value(1, 1, 2))
        self.assertEqual(found, [[0, 9, 1], [0, 7, 1], [0, 10, 1], [0, 12, 1]])

    def test_changes_and_locks_make_no_difference(self):
        for change in range(3):
            for flag in range(2):
                calls = EXAMPLE + [set_goal_change(0, 0, change), set_lock(0, 0, flag), set_goal_change(1, 0, change)]
                self.assertEqual(after(calls, ideal_value(0, 0, 2), ideal_value(1, 0, 2)), [[0, 9, 1], [0, 7, 1]])

    def test_no_steps_and_no_actions(self):
        calls = [create(3, 1), add_action(0, [5, 0, 1, 0])]
        self.assertEqual(after(calls, ideal_value(0, 0, 0), ideal_value(0, 1, 4), ideal_value(0, 0, 4)),
                         [[0, 0, 1], [0, 0, 1], [0, 5, 1]])

    def test_a_loss_is_taken_where_there_is_no_other_action(self):
        self.assertEqual(ask(create(2, 1), add_action(0, [-2, 1, 2]), ideal_value(0, 0, 2))[2:], [[0, -8, 3]])

    def test_steps(self):
        calls = [create(2, 1), add_action(0, [1, 1, 0])]
        found = after(calls, *[ideal_value(0, 0, steps) for steps in (0, 4, 5, MOST)])
        self.assertEqual(found, [[0, 0, 1], [0, 4, 1], [-22], [-22]])

    def test_order_of_errors(self):
        for evaluator, state in ((2, 0), (0, 2), (MOST, 0), (0, MOST)):
            for steps in (0, 4, 5, MOST):
                self.assertEqual(after(EXAMPLE, ideal_value(evaluator, state, steps)), [[-2]])


class ChangeCost(unittest.TestCase):
    def test_by_the_present_goal(self):
        found = after(THREE_GOALS, change_cost(0, 1, 1, 0, 1), change_cost(1, 0, 1, 0, 1), change_cost(0, 2, 1, 0, 1),
                      change_cost(2, 0, 1, 0, 1), change_cost(2, 1, 1, 0, 1))
        self.assertEqual(found, [[0, 5, 1], [0, 4, 1], [0, 3, 1], [0, 7, 1], [0, 5, 1]])

    def test_to_itself(self):
        for goal in range(3):
            self.assertEqual(after(THREE_GOALS, change_cost(goal, goal, 0, 1, 4)), [[0, 0, 1]])

    def test_a_fraction(self):
        self.assertEqual(after(THREE_GOALS, change_cost(0, 1, 0, 0, 2)), [[0, 15, 4]])

    def test_each_goal_goes_its_own_way_round_a_change(self):
        # Action 0 of state 0 changes to goal 1, which costs goal 0 its 6 in state 2; action 1
        # costs goal 0 two now. Goal 1 likes action 0, goal 0 takes action 1.
        calls = [
            create(3, 2),
            add_action(0, [0, 1, 0, 0, 1]),
            add_action(0, [-2, 0, 0, 0, 1]),
            add_action(2, [6, 0, 1, 1, 0]),
            add_action(2, [1, 3, 1, 1, 0]),
            set_goal_change(0, 0, 2),
        ]
        found = after(calls, chosen_action(0, 0, 0, 2), chosen_action(0, 1, 0, 2), value(0, 0, 0, 0, 2),
                      value(0, 0, 1, 0, 2), change_cost(0, 1, 0, 0, 2), change_cost(1, 0, 0, 0, 2))
        self.assertEqual(found, [[1], [0], [0, 4, 1], [0, 1, 1], [0, 3, 1], [0, 4, 1]])

    def test_locked_goals_stay(self):
        calls = THREE_GOALS + [set_goal_change(0, 0, 3)]
        self.assertEqual(after(calls, change_cost(0, 1, 0, 0, 2), change_cost(0, 1, 0, 1, 2)),
                         [[0, 0, 1], [0, 15, 4]])

    def test_no_steps(self):
        self.assertEqual(after(THREE_GOALS, change_cost(0, 1, 1, 0, 0)), [[0, 0, 1]])

    def test_order_of_errors(self):
        wrong = ((3, 0, 0), (0, 3, 0), (0, 0, 2), (MOST, 0, 0), (0, MOST, 0), (0, 0, MOST))
        for goal, other, state in wrong:
            for locked, steps in ((0, 1), (2, 1), (0, 5)):
                self.assertEqual(after(THREE_GOALS, change_cost(goal, other, state, locked, steps)), [[-2]])
        for locked, steps in ((2, 1), (MOST, 0), (0, 5), (0, MOST)):
            self.assertEqual(after(THREE_GOALS, change_cost(0, 1, 0, locked, steps)), [[-22]])
        self.assertEqual(after(THREE_GOALS, change_cost(0, 1, 1, 1, 4)), [[0, 20, 1]])


class ChangeCosts(unittest.TestCase):
    def test_to_every_goal(self):
        found = after(THREE_GOALS, change_costs(0, 1, 0, 1), change_costs(1, 1, 0, 1), change_costs(2, 1, 1, 1),
                      change_costs(0, 0, 0, 2))
        self.assertEqual(found, [
            [3, 0, 1, 5, 1, 3, 1], [3, 4, 1, 0, 1, 4, 1], [3, 7, 1, 5, 1, 0, 1], [3, 0, 1, 15, 4, 9, 4],
        ])

    def test_one_goal(self):
        self.assertEqual(ask(create(2, 1), add_action(0, [1, 1, 1]), change_costs(0, 0, 0, 4))[2:], [[1, 0, 1]])

    def test_no_steps_and_no_actions(self):
        self.assertEqual(ask(create(2, 2), change_costs(1, 0, 0, 4), change_costs(0, 0, 1, 0))[1:],
                         [[2, 0, 1, 0, 1]] * 2)

    def test_order_of_errors(self):
        for goal, state in ((3, 0), (0, 2), (MOST, 0), (0, MOST)):
            for locked, steps in ((0, 1), (2, 1), (0, 5)):
                self.assertEqual(after(THREE_GOALS, change_costs(goal, state, locked, steps)), [[-2]])
        for locked, steps in ((2, 1), (MOST, 0), (0, 5), (0, MOST)):
            self.assertEqual(after(THREE_GOALS, change_costs(0, 0, locked, steps)), [[-22]])


class NearestGoal(unittest.TestCase):
    def test_the_smallest_cost(self):
        found = after(THREE_GOALS, nearest_goal(0, 1, 0, 1), nearest_goal(2, 1, 0, 1), nearest_goal(0, 0, 0, 2))
        self.assertEqual(found, [[2, 3, 1], [1, 5, 1], [2, 9, 4]])

    def test_ties_go_to_the_smallest_number(self):
        self.assertEqual(after(THREE_GOALS, nearest_goal(1, 1, 0, 1)), [[0, 4, 1]])
        self.assertEqual(ask(create(2, 3), *[nearest_goal(goal, 0, 0, 4) for goal in range(3)])[1:],
                         [[1, 0, 1], [0, 0, 1], [0, 0, 1]])

    def test_never_the_goal_itself(self):
        self.assertEqual(ask(create(2, 2), nearest_goal(0, 0, 0, 0), nearest_goal(1, 0, 1, 0))[1:],
                         [[1, 0, 1], [0, 0, 1]])

    def test_no_other_goal(self):
        self.assertEqual(ask(create(2, 1), nearest_goal(0, 0, 0, 4), nearest_goal(0, 1, 1, 0))[1:], [[-33], [-33]])

    def test_order_of_errors(self):
        one = [create(2, 1)]
        for goal, state in ((1, 0), (0, 2), (MOST, 0), (0, MOST)):
            for locked, steps in ((0, 1), (2, 1), (0, 5)):
                self.assertEqual(after(one, nearest_goal(goal, state, locked, steps)), [[-2]])
        for locked, steps in ((2, 1), (MOST, 0), (0, 5), (0, MOST)):
            self.assertEqual(after(one, nearest_goal(0, 0, locked, steps)), [[-22]])


class Questions(unittest.TestCase):
    def test_they_change_nothing(self):
        once = [chosen_action(0, 0, 0, 3), value(0, 0, 1, 0, 3), ideal_value(1, 0, 3), change_cost(0, 1, 0, 0, 3),
                change_costs(0, 0, 0, 3), nearest_goal(0, 0, 0, 3)]
        found = after(EXAMPLE, *once, *once)
        self.assertEqual(found[:6], found[6:])


if __name__ == "__main__":
    unittest.main()
