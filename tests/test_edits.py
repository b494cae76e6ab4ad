"""The calls 1 to 4: adding, removing and setting actions."""

import unittest

from tests.helper import (
    MOST, add_action, after, ask, chosen_action, create, ideal_value, last, remove_action, set_goal_change, set_lock,
    value,
)


class AddAction(unittest.TestCase):
    def test_numbers_in_the_order_of_adding(self):
        found = ask(create(2, 1), *[add_action(1, [n, 1, 0]) for n in (1, 2, 3)], add_action(0, [1, 1, 0]))
        self.assertEqual(found, [[0], [0], [1], [2], [0]])

    def test_three_actions_in_every_state_and_no_fourth(self):
        for state in range(4):
            found = ask(create(4, 3), *[add_action(state, [0, 0, 0, 1, 1, 1, 1])] * 4)
            self.assertEqual(found, [[0], [0], [1], [2], [-28]])

    def test_a_fourth_action_changes_nothing(self):
        calls = [create(2, 1)] + [add_action(0, [n, 0, 1]) for n in (1, 2, 3)]
        found = after(calls, add_action(0, [9, 0, 1]), ideal_value(0, 0, 1), remove_action(0, 2), ideal_value(0, 0, 1))
        self.assertEqual(found, [[-28], [0, 3, 1], [2], [0, 2, 1]])

    def test_least_and_greatest_rewards(self):
        for reward in (-9, -1, 0, 1, 9):
            self.assertEqual(ask(create(2, 1), add_action(0, [reward, 1, 0]), value(0, 0, 0, 0, 1))[1:],
                             [[0], [0, reward, 1]])
        for reward in (-2147483648, -10, 10, 2147483647):
            self.assertEqual(last(create(2, 1), add_action(0, [reward, 1, 0])), [-22])

    def test_every_reward_is_looked_at(self):
        for goal in range(3):
            for reward in (-10, 10):
                parameters = [0, 0, 0, 1, 1]
                parameters[goal] = reward
                self.assertEqual(last(create(2, 3), add_action(0, parameters)), [-22])

    def test_least_and_greatest_weights(self):
        for weights in ([0, 1], [1, 0], [9, 9], [0, 9], [9, 0]):
            self.assertEqual(last(create(2, 1), add_action(0, [1] + weights)), [0])
        for weights in ([0, 0], [-1, 1], [1, -1], [10, 1], [1, 10], [0, 10], [2147483647, 1], [1, -2147483648]):
            self.assertEqual(last(create(2, 1), add_action(0, [1] + weights)), [-22])

    def test_every_weight_is_looked_at(self):
        for state in range(4):
            for weight in (-1, 10):
                weights = [1, 1, 1, 1]
                weights[state] = weight
                self.assertEqual(last(create(4, 1), add_action(0, [0] + weights)), [-22])

    def test_a_weight_may_not_be_a_reward_below_zero(self):
        self.assertEqual(last(create(3, 2), add_action(0, [-9, -9, 1, 1, 1])), [0])
        self.assertEqual(last(create(3, 2), add_action(0, [-9, -9, -9, 1, 1])), [-22])

    def test_lists_of_another_length(self):
        for states in (2, 3, 4):
            for goals in (1, 2, 3):
                for length in range(10):
                    allowed = length == states + goals
                    with self.subTest(states=states, goals=goals, length=length):
                        self.assertEqual(last(create(states, goals), add_action(0, [1] * length)),
                                         [0] if allowed else [-22])

    def test_a_refused_action_is_not_added(self):
        found = ask(create(2, 1), add_action(0, [10, 1, 1]), add_action(0, []), add_action(0, [1, 0, 0]),
                    remove_action(0, 0), add_action(0, [1, 1, 1]))
        self.assertEqual(found[1:], [[-22], [-22], [-22], [-2], [0]])

    def test_states_that_do_not_exist(self):
        for state in (2, 3, MOST):
            self.assertEqual(last(create(2, 1), add_action(state, [1, 1, 1])), [-2])

    def test_order_of_errors(self):
        full = [create(2, 1)] + [add_action(0, [1, 1, 1])] * 3
        self.assertEqual(after(full, add_action(2, [])), [[-2]])
        self.assertEqual(after(full, add_action(2, [10, 0, 0])), [[-2]])
        self.assertEqual(after(full, add_action(0, [])), [[-22]])
        self.assertEqual(after(full, add_action(0, [1, 0, 0])), [[-22]])
        self.assertEqual(after(full, add_action(0, [1, 1, 1])), [[-28]])

    def test_neither_changes_nor_locks(self):
        self.assertEqual(ask(create(2, 2), add_action(0, [1, 1, 1, 1]), set_goal_change(0, 0, 0), set_lock(0, 0, 0))[2:],
                         [[0], [0]])

    def test_rewards_come_first_one_for_each_goal(self):
        found = ask(create(3, 2), add_action(0, [5, 7, 0, 1, 0]), add_action(1, [2, 3, 0, 0, 1]),
                    value(0, 0, 0, 0, 1), value(1, 0, 0, 0, 1), value(0, 0, 0, 0, 2), value(1, 0, 0, 0, 2))
        self.assertEqual(found[3:], [[0, 5, 1], [0, 7, 1], [0, 7, 1], [0, 10, 1]])


class RemoveAction(unittest.TestCase):
    def test_how_many_remain(self):
        three = [create(2, 1)] + [add_action(1, [n, 1, 1]) for n in (1, 2, 3)]
        self.assertEqual(after(three, *[remove_action(1, 0)] * 4), [[2], [1], [0], [-2]])
        self.assertEqual(after(three, remove_action(1, 2), remove_action(1, 2)), [[2], [-2]])

    def test_later_numbers_decrease_and_earlier_stay(self):
        calls = [create(2, 1)]
        for number in range(3):
            calls.append(add_action(0, [number, 1, 1]))
        calls += [set_goal_change(0, 0, 1), set_lock(0, 2, 1), remove_action(0, 1)]
        found = after(calls, set_goal_change(0, 0, 1), set_goal_change(0, 1, 0), set_lock(0, 0, 0), set_lock(0, 1, 1),
                      set_lock(0, 2, 0))
        self.assertEqual(found, [[1], [0], [0], [1], [-2]])

    def test_a_new_action_is_the_last(self):
        found = ask(create(2, 1), add_action(0, [1, 1, 1]), add_action(0, [5, 1, 1]), remove_action(0, 0),
                    add_action(0, [7, 1, 1]), chosen_action(0, 0, 0, 1))
        self.assertEqual(found[3:], [[1], [1], [1]])

    def test_a_new_action_has_nothing_of_the_removed_one(self):
        found = ask(create(2, 1), add_action(0, [1, 1, 1]), set_goal_change(0, 0, 1), set_lock(0, 0, 1),
                    remove_action(0, 0), add_action(0, [1, 1, 1]), set_goal_change(0, 0, 0), set_lock(0, 0, 0))
        self.assertEqual(found[4:], [[0], [0], [0], [0]])

    def test_other_states_keep_theirs(self):
        found = ask(create(2, 1), add_action(0, [1, 1, 1]), add_action(1, [2, 1, 1]), remove_action(0, 0),
                    value(0, 0, 0, 0, 1), value(0, 1, 0, 0, 1))
        self.assertEqual(found[3:], [[0], [0, 0, 1], [0, 2, 1]])

    def test_what_does_not_exist(self):
        one = [create(2, 1), add_action(0, [1, 1, 1])]
        for state, action in ((2, 0), (MOST, 0), (0, 1), (0, MOST), (1, 0), (MOST, MOST)):
            self.assertEqual(after(one, remove_action(state, action), value(0, 0, 0, 0, 1)), [[-2], [0, 1, 1]])


class SetGoalChange(unittest.TestCase):
    def test_the_previous_value(self):
        one = [create(2, 3), add_action(1, [1, 1, 1, 1, 1])]
        changes = [set_goal_change(1, 0, change) for change in (3, 1, 2, 0, 0)]
        self.assertEqual(after(one, *changes), [[0], [3], [1], [2], [0]])

    def test_each_action_has_its_own(self):
        two = [create(2, 2), add_action(0, [1, 1, 1, 1]), add_action(0, [1, 1, 1, 1]), add_action(1, [1, 1, 1, 1])]
        found = after(two, set_goal_change(0, 1, 2), set_goal_change(0, 0, 1), set_goal_change(1, 0, 0),
                      set_goal_change(0, 1, 0), set_goal_change(0, 0, 0))
        self.assertEqual(found, [[0], [0], [0], [2], [1]])

    def test_limits(self):
        for goals in (1, 2, 3):
            one = [create(2, goals), add_action(0, [0] * goals + [1, 1])]
            found = after(one, set_goal_change(0, 0, goals), set_goal_change(0, 0, goals + 1),
                          set_goal_change(0, 0, MOST), set_goal_change(0, 0, 0))
            self.assertEqual(found, [[0], [-22], [-22], [goals]])

    def test_what_does_not_exist_comes_first(self):
        one = [create(2, 1), add_action(0, [1, 1, 1])]
        for state, action in ((2, 0), (MOST, 0), (0, 1), (0, MOST), (1, 0)):
            for change in (0, 2, MOST):
                self.assertEqual(after(one, set_goal_change(state, action, change)), [[-2]])

    def test_it_does_not_set_the_lock(self):
        self.assertEqual(ask(create(2, 1), add_action(0, [1, 1, 1]), set_goal_change(0, 0, 1), set_lock(0, 0, 0))[3:],
                         [[0]])


class SetLock(unittest.TestCase):
    def test_the_previous_value(self):
        one = [create(2, 1), add_action(1, [1, 1, 1])]
        self.assertEqual(after(one, *[set_lock(1, 0, flag) for flag in (1, 1, 0, 0)]), [[0], [1], [1], [0]])

    def test_each_action_has_its_own(self):
        two = [create(2, 1), add_action(0, [1, 1, 1]), add_action(0, [1, 1, 1]), add_action(1, [1, 1, 1])]
        found = after(two, set_lock(0, 1, 1), set_lock(0, 0, 0), set_lock(1, 0, 0), set_lock(0, 1, 0))
        self.assertEqual(found, [[0], [0], [0], [1]])

    def test_limits(self):
        one = [create(2, 1), add_action(0, [1, 1, 1])]
        found = after(one, set_lock(0, 0, 1), set_lock(0, 0, 2), set_lock(0, 0, MOST), set_lock(0, 0, 0))
        self.assertEqual(found, [[0], [-22], [-22], [1]])

    def test_what_does_not_exist_comes_first(self):
        one = [create(2, 1), add_action(0, [1, 1, 1])]
        for state, action in ((2, 0), (MOST, 0), (0, 1), (0, MOST), (1, 0)):
            for flag in (0, 2, MOST):
                self.assertEqual(after(one, set_lock(state, action, flag)), [[-2]])

    def test_it_does_not_set_the_change(self):
        self.assertEqual(ask(create(2, 1), add_action(0, [1, 1, 1]), set_lock(0, 0, 1), set_goal_change(0, 0, 0))[3:],
                         [[0]])


if __name__ == "__main__":
    unittest.main()
