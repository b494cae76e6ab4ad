"""The calls 17 to 20: twins, and what the actions that change the goal are worth."""

import unittest

from tests.helper import (
    EXAMPLE, MOST, THREE_GOALS, actions_without_twin, add_action, add_twins, after, ask, change_loss, chosen_action,
    create, has_twin, last, naive_value, remove_action, set_goal_change, set_lock, value,
)

FULL = [create(2, 2)] + [add_action(0, [n, 0, 1, 1]) for n in (1, 2, 3)]


def changed(calls, *numbers):
    """The calls, and more that make these actions of state 0 change the goal to 1."""
    return calls + [set_goal_change(0, number, 2) for number in numbers]


class HasTwin(unittest.TestCase):
    def test_an_action_that_leaves_the_goal_alone_is_its_own_twin(self):
        self.assertEqual(after(EXAMPLE, has_twin(0, 1), has_twin(1, 0), has_twin(1, 1)), [[1]] * 3)

    def test_an_action_that_changes_the_goal_is_not(self):
        self.assertEqual(after(EXAMPLE, has_twin(0, 0)), [[0]])

    def test_the_twin_may_stand_behind_or_ahead(self):
        two = [create(2, 2), add_action(0, [4, -1, 0, 1]), add_action(0, [4, -1, 0, 1])]
        for number in range(2):
            self.assertEqual(after(changed(two, number), has_twin(0, 0), has_twin(0, 1)), [[1], [1]])
        self.assertEqual(after(changed(two, 0, 1), has_twin(0, 0), has_twin(0, 1)), [[0], [0]])

    def test_an_action_of_change_0_that_locks(self):
        calls = EXAMPLE + [set_lock(0, 1, 1)]
        found = after(calls, has_twin(0, 1), add_action(0, [3, 1, 0, 1]), has_twin(0, 1), has_twin(0, 2),
                      set_lock(0, 2, 1), has_twin(0, 1), has_twin(0, 2))
        self.assertEqual(found, [[0], [2], [1], [1], [0], [0], [0]])

    def test_an_action_that_locks_is_no_twin_of_another(self):
        calls = EXAMPLE + [add_action(0, [4, 0, 0, 1])]
        self.assertEqual(after(calls, has_twin(0, 0), set_lock(0, 2, 1), has_twin(0, 0)), [[1], [0], [0]])

    def test_an_action_that_changes_to_another_goal_is_no_twin(self):
        calls = EXAMPLE + [add_action(0, [4, 0, 0, 1]), set_goal_change(0, 2, 1)]
        self.assertEqual(after(calls, has_twin(0, 0), has_twin(0, 2)), [[0], [0]])

    def test_an_action_that_locks_and_changes_at_once(self):
        calls = EXAMPLE + [set_lock(0, 0, 1)]
        self.assertEqual(after(calls, has_twin(0, 0), add_action(0, [4, 0, 0, 1]), has_twin(0, 0)), [[0], [2], [1]])

    def test_a_change_to_the_only_goal(self):
        calls = [create(2, 1), add_action(0, [1, 1, 1]), set_goal_change(0, 0, 1)]
        self.assertEqual(after(calls, has_twin(0, 0), set_goal_change(0, 0, 0), has_twin(0, 0)), [[0], [1], [1]])

    def test_every_reward_and_every_weight_is_looked_at(self):
        parameters = [1, 2, 3, 4, 5, 6, 7]
        calls = [create(4, 3), add_action(0, parameters), set_goal_change(0, 0, 1)]
        self.assertEqual(after(calls, add_action(0, parameters), has_twin(0, 0)), [[1], [1]])
        for place in range(7):
            other = list(parameters)
            other[place] += 1
            self.assertEqual(after(calls, add_action(0, other), has_twin(0, 0)), [[1], [0]])

    def test_weights_that_mean_the_same_are_not_the_same(self):
        calls = [create(2, 1), add_action(0, [1, 1, 2]), add_action(0, [1, 2, 4]), set_goal_change(0, 0, 1)]
        self.assertEqual(after(calls, has_twin(0, 0)), [[0]])

    def test_an_action_of_another_state_is_no_twin(self):
        self.assertEqual(after(EXAMPLE, add_action(1, [4, 0, 0, 1]), has_twin(0, 0)), [[2], [0]])

    def test_a_twin_that_is_removed(self):
        calls = EXAMPLE + [add_action(0, [4, 0, 0, 1])]
        self.assertEqual(after(calls, has_twin(0, 0), remove_action(0, 2), has_twin(0, 0)), [[1], [2], [0]])

    def test_what_does_not_exist(self):
        for state, action in ((2, 0), (MOST, 0), (0, 2), (0, MOST), (1, 2), (2, 2)):
            self.assertEqual(after(EXAMPLE, has_twin(state, action)), [[-2]])
        self.assertEqual(last(create(2, 1), has_twin(0, 0)), [-2])


class ActionsWithoutTwin(unittest.TestCase):
    def test_none(self):
        self.assertEqual(last(create(2, 1), actions_without_twin()), [0])
        self.assertEqual(last(*THREE_GOALS, actions_without_twin()), [0])
        self.assertEqual(after(EXAMPLE, add_action(0, [4, 0, 0, 1]), actions_without_twin()), [[2], [0]])

    def test_ordered_by_state_and_then_by_number(self):
        calls = [create(3, 1)]
        for state in (2, 0):
            calls += [add_action(state, [n, 1, 1, 1]) for n in range(3)]
        for state, number in ((2, 2), (0, 1), (2, 0), (0, 0)):
            calls.append(set_goal_change(state, number, 1))
        self.assertEqual(last(*calls, actions_without_twin()), [4, 0, 0, 0, 1, 2, 0, 2, 2])

    def test_all_that_there_can_be(self):
        calls = [create(4, 1)]
        for state in range(4):
            for number in range(3):
                calls += [add_action(state, [1, 1, 1, 1, 1]), set_goal_change(state, number, 1)]
        places = [number for state in range(4) for action in range(3) for number in (state, action)]
        self.assertEqual(last(*calls, actions_without_twin()), [12] + places)

    def test_an_action_that_locks_alone_does_not_count(self):
        self.assertEqual(after(EXAMPLE, set_lock(0, 1, 1), has_twin(0, 1), actions_without_twin()),
                         [[0], [0], [1, 0, 0]])

    def test_an_action_that_locks_and_changes_at_once(self):
        self.assertEqual(after(EXAMPLE, set_lock(0, 0, 1), actions_without_twin()), [[0], [1, 0, 0]])

    def test_a_change_to_the_goal_that_every_agent_has(self):
        self.assertEqual(last(create(2, 1), add_action(1, [1, 1, 1]), set_goal_change(1, 0, 1), actions_without_twin()),
                         [1, 1, 0])


class AddTwins(unittest.TestCase):
    def test_a_twin_is_appended(self):
        found = after(EXAMPLE, add_twins(0), has_twin(0, 0), actions_without_twin(), value(0, 0, 0, 0, 2),
                      chosen_action(0, 0, 0, 2), remove_action(0, 2), has_twin(0, 0))
        self.assertEqual(found, [[1], [1], [0], [0, 9, 1], [2], [2], [0]])

    def test_the_twin_neither_changes_nor_locks(self):
        calls = EXAMPLE + [set_lock(0, 0, 1), add_twins(0)]
        found = after(calls, set_goal_change(0, 2, 0), set_lock(0, 2, 0), set_goal_change(0, 0, 0), set_lock(0, 0, 0))
        self.assertEqual(found, [[0], [0], [2], [1]])

    def test_a_second_time_there_is_nothing_to_do(self):
        self.assertEqual(after(EXAMPLE, add_twins(0), add_twins(0)), [[1], [0]])

    def test_actions_that_need_none(self):
        self.assertEqual(after(EXAMPLE, add_twins(1), add_twins(1), remove_action(1, 1)), [[0], [0], [1]])
        self.assertEqual(after(EXAMPLE + [set_lock(1, 0, 1)], add_twins(1), remove_action(1, 1)), [[0], [1]])
        self.assertEqual(last(create(2, 1), add_twins(0)), [0])

    def test_a_twin_that_is_there_already(self):
        two = [create(2, 2), add_action(0, [4, 0, 0, 1]), add_action(0, [4, 0, 0, 1])]
        for number in range(2):
            self.assertEqual(after(changed(two, number), add_twins(0), remove_action(0, 0)), [[0], [1]])

    def test_other_states_get_none(self):
        calls = EXAMPLE + [set_goal_change(1, 0, 1)]
        self.assertEqual(after(calls, add_twins(0), actions_without_twin(), remove_action(1, 1)),
                         [[1], [1, 1, 0], [1]])

    def test_room_for_the_first_of_two_alone(self):
        calls = changed(EXAMPLE, 1)
        self.assertEqual(after(calls, add_twins(0), actions_without_twin(), has_twin(0, 0), has_twin(0, 1)),
                         [[1], [1, 0, 1], [1], [0]])

    def test_no_room(self):
        self.assertEqual(after(changed(FULL, 0, 1, 2), add_twins(0), actions_without_twin(), remove_action(0, 2)),
                         [[0], [3, 0, 0, 0, 1, 0, 2], [2]])
        self.assertEqual(after(changed(FULL, 1), add_twins(0), actions_without_twin()), [[0], [1, 0, 1]])

    def test_two_actions_share_one_twin(self):
        calls = changed([create(2, 2), add_action(0, [1, 2, 1, 3]), add_action(0, [1, 2, 1, 3])], 0)
        calls = calls + [set_goal_change(0, 1, 1), set_lock(0, 1, 1)]
        self.assertEqual(after(calls, actions_without_twin(), add_twins(0), has_twin(0, 0), has_twin(0, 1),
                               actions_without_twin(), set_goal_change(0, 2, 0)),
                         [[2, 0, 0, 0, 1], [1], [1], [1], [0], [0]])

    def test_the_first_has_a_twin_and_the_second_finds_no_room(self):
        calls = changed([create(2, 2), add_action(0, [1, 2, 1, 3]), add_action(0, [1, 2, 1, 3]),
                         add_action(0, [5, 5, 5, 5])], 0, 2)
        self.assertEqual(after(calls, add_twins(0), actions_without_twin(), remove_action(0, 1), add_twins(0),
                               actions_without_twin()),
                         [[0], [1, 0, 2], [2], [1], [1, 0, 1]])

    def test_the_twin_stays_when_the_action_is_altered(self):
        found = after(EXAMPLE, add_twins(0), remove_action(0, 0), naive_value(0, 0, 0, 0, 2), has_twin(0, 1))
        self.assertEqual(found, [[1], [2], [0, 9, 1], [1]])
        found = after(EXAMPLE, add_twins(0), set_goal_change(0, 0, 1), set_goal_change(0, 2, 2),
                      set_goal_change(0, 0, 0), set_goal_change(0, 2, 0))
        self.assertEqual(found, [[1], [2], [0], [1], [2]])

    def test_no_fourth_action_behind_it(self):
        self.assertEqual(after(EXAMPLE, add_twins(0), add_action(0, [1, 1, 1, 1])), [[1], [-28]])

    def test_states_that_do_not_exist(self):
        for state in (2, 3, MOST):
            self.assertEqual(after(EXAMPLE, add_twins(state), actions_without_twin()), [[-2], [1, 0, 0]])


class ChangeLoss(unittest.TestCase):
    # State 0 has nothing but an action that gives the goal 1.
    NOTHING_ELSE = [
        create(2, 2),
        add_action(0, [-1, 0, 3, 4]),
        add_action(1, [5, 0, 1, 2]),
        add_action(1, [0, 5, 1, 2]),
        set_goal_change(0, 0, 2),
    ]

    def test_a_change_that_is_worth_something(self):
        self.assertEqual(after(EXAMPLE, *[change_loss(0, 0, steps) for steps in (1, 2)], change_loss(1, 0, 2)),
                         [[0, -1, 1], [0, 0, 1], [0, 0, 1]])

    def test_a_state_that_has_no_action_left(self):
        calls = EXAMPLE + [remove_action(0, 1)]
        self.assertEqual(after(calls, change_loss(0, 0, 2), change_loss(1, 0, 2)), [[0, -4, 1], [0, -6, 1]])

    def test_a_later_state_that_has_no_action_left(self):
        found = after(self.NOTHING_ELSE, change_loss(0, 0, 2), change_loss(0, 1, 2), change_loss(0, 1, 3))
        self.assertEqual(found, [[0, 10, 7], [0, 1, 3], [0, 44, 63]])

    def test_no_state_has_an_action_left(self):
        calls = self.NOTHING_ELSE + [set_goal_change(1, 0, 1), set_goal_change(1, 1, 1)]
        # 5 + (-1 + 2 * 5) / 3 is lost, as every agent in state 1 has the goal 0 then.
        self.assertEqual(after(calls, change_loss(0, 1, 2)), [[0, -8, 1]])

    def test_a_change_to_the_goal_that_the_agent_has(self):
        calls = EXAMPLE + [set_goal_change(0, 0, 1)]
        self.assertEqual(after(calls, value(0, 0, 0, 0, 2), change_loss(0, 0, 2)), [[0, 9, 1], [0, -1, 1]])

    def test_an_action_that_locks_alone_stays(self):
        calls = EXAMPLE + [set_lock(0, 1, 1), remove_action(0, 0)]
        self.assertEqual(after(calls, change_loss(0, 0, 2)), [[0, 0, 1]])

    def test_an_action_that_locks_and_changes_at_once_goes(self):
        calls = EXAMPLE + [set_lock(0, 0, 1), remove_action(0, 1)]
        self.assertEqual(after(calls, change_loss(1, 0, 2)), [[0, -6, 1]])

    def test_the_goal_is_not_locked(self):
        # Locked, goal 0 would get 9 now and 8 without the change.
        self.assertEqual(after(EXAMPLE, value(0, 0, 0, 1, 2), change_loss(0, 0, 2)), [[0, 9, 1], [0, 0, 1]])

    def test_the_process_is_as_it_was_afterwards(self):
        calls = EXAMPLE + [set_lock(0, 1, 1), add_action(1, [2, 2, 1, 1]), set_goal_change(1, 2, 1)]
        asked = [value(0, 0, 0, 0, 4), chosen_action(0, 0, 0, 1), actions_without_twin(), set_lock(0, 1, 1),
                 set_goal_change(0, 0, 2), set_goal_change(1, 2, 1), remove_action(1, 0), remove_action(0, 0)]
        self.assertEqual(after(calls, change_loss(0, 0, 4), *asked)[1:], after(calls, *asked))
        self.assertEqual(after(calls, *asked)[1:],
                         [[0], [2, 0, 0, 1, 2], [1], [2], [1], [2], [1]])

    def test_no_steps_and_no_actions(self):
        self.assertEqual(after(self.NOTHING_ELSE, change_loss(0, 0, 0)), [[0, 0, 1]])
        self.assertEqual(last(create(2, 1), change_loss(0, 1, 4)), [0, 0, 1])

    def test_steps(self):
        found = after(EXAMPLE, *[change_loss(0, 1, steps) for steps in (0, 4, 5, MOST)])
        self.assertEqual(found, [[0, 0, 1], [0, 0, 1], [-22], [-22]])

    def test_order_of_errors(self):
        for goal, state in ((2, 0), (0, 2), (MOST, 0), (0, MOST), (2, 2)):
            for steps in (0, 4, 5, MOST):
                self.assertEqual(after(EXAMPLE, change_loss(goal, state, steps)), [[-2]])
        for steps in (5, MOST):
            self.assertEqual(after(EXAMPLE, change_loss(0, 0, steps)), [[-22]])
        self.assertEqual(ask(create(3, 1), change_loss(0, 2, 1), change_loss(2, 0, 1))[1:], [[0, 0, 1], [-2]])


class Questions(unittest.TestCase):
    def test_they_change_nothing(self):
        once = [has_twin(0, 0), actions_without_twin(), change_loss(0, 0, 3), value(0, 0, 0, 0, 3)]
        found = after(EXAMPLE, *once, *once)
        self.assertEqual(found[:4], found[4:])


if __name__ == "__main__":
    unittest.main()
