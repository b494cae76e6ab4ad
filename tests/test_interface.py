"""How calls are handed in, and how the answers come back."""

import contextlib
import io
import unittest

from lockedgoals.process import answers
from tests.helper import (
    EXAMPLE, actions_without_twin, add_action, add_twins, after, ask, change_cost, change_costs, chosen_action, create,
    flat, has_twin, ideal_value, last, lock_value, naive_action, naive_loss, nearest_goal, remove_action, set_lock,
    value,
)

EVERY_CALL_BUT_CREATE = (
    [1, 0, 4, 1, 1, 1, 1], [2, 0, 0], [3, 0, 0, 0], [4, 0, 0, 0], [5, 0, 0, 0, 1],
    [6, 0, 0, 0, 0, 1], [7, 0, 0, 1], [8, 0, 0, 0, 0, 1], [9, 0, 0, 0, 1], [10, 0, 0, 0, 1],
    [11, 0, 0, 0, 1], [12, 0, 0, 1], [13, 0, 1], [14, 0, 0, 1], [15, 0, 0, 0, 0, 1],
    [16, 0, 0, 0, 1], [17, 0, 0], [18], [19, 0], [20, 0, 0, 1], [21, 0, 0, 1],
)


class Examples(unittest.TestCase):
    # The document's example, call by call, with the answers that it tells.
    RESULTS = [
        (create(2, 2), [0]),
        (add_action(0, [4, 0, 0, 1]), [0]),
        (add_action(0, [3, 1, 0, 1]), [1]),
        (add_action(1, [5, 0, 0, 1]), [0]),
        (add_action(1, [0, 6, 0, 1]), [1]),
        ([3, 0, 0, 2], [0]),
        (ideal_value(0, 0, 2), [0, 9, 1]),
        (chosen_action(0, 0, 0, 2), [1]),
        (value(0, 0, 0, 0, 2), [0, 8, 1]),
        (naive_action(0, 0, 2), [0]),
        (naive_loss(0, 0, 0, 2), [0, 5, 1]),
        (change_cost(0, 1, 1, 0, 1), [0, 5, 1]),
        (lock_value(0, 0, 2), [0, 1, 1]),
        (actions_without_twin(), [1, 0, 0]),
        (add_twins(0), [1]),
        (value(0, 0, 0, 0, 2), [0, 9, 1]),
        (nearest_goal(0, 1, 0, 1), [1, 5, 1]),
        (set_lock(0, 3, 1), [-2]),
    ]

    def test_the_document(self):
        self.assertEqual(ask(*[call for call, _ in self.RESULTS]), [answer for _, answer in self.RESULTS])

    def test_the_document_number_by_number(self):
        self.assertEqual(answers([
            0, 2, 2, 1, 0, 4, 4, 0, 0, 1, 1, 0, 4, 3, 1, 0, 1, 1, 1, 4, 5, 0, 0, 1, 1, 1, 4, 0, 6, 0, 1, 3, 0, 0, 2,
            7, 0, 0, 2, 5, 0, 0, 0, 2, 6, 0, 0, 0, 0, 2, 14, 0, 0, 2, 16, 0, 0, 0, 2, 8, 0, 1, 1, 0, 1, 12, 0, 0, 2,
            18, 19, 0, 6, 0, 0, 0, 0, 2, 10, 0, 1, 0, 1, 4, 0, 3, 1,
        ]), [
            1, 0, 1, 0, 1, 1, 1, 0, 1, 1, 1, 0,
            3, 0, 9, 1, 1, 1, 3, 0, 8, 1, 1, 0, 3, 0, 5, 1, 3, 0, 5, 1, 3, 0, 1, 1,
            3, 1, 0, 0, 1, 1, 3, 0, 9, 1, 3, 1, 5, 1, 1, -2,
        ])


class Shape(unittest.TestCase):
    def test_each_answer_has_its_count_before_it(self):
        calls = flat([
            create(2, 2),
            add_action(0, [4, 0, 0, 1]),
            value(0, 0, 0, 0, 1),
            change_costs(0, 0, 0, 1),
            value(2, 0, 0, 0, 1),
            [2, 0, 0],
        ])
        self.assertEqual(answers(calls), [1, 0, 1, 0, 3, 0, 4, 1, 5, 2, 0, 1, 0, 1, 1, -2, 1, 0])

    def test_the_form_of_each_answer(self):
        found = after(EXAMPLE, *EVERY_CALL_BUT_CREATE[3:])
        self.assertEqual(found, [
            [0], [0], [0, 4, 1], [0, 4, 1], [0, 0, 1], [2, 0, 1, 1, 1], [1, 1, 1],
            [0], [0, 0, 1], [0], [0], [0, 4, 1],
            [0, 0, 1], [0], [1, 0, 0], [1], [0, 0, 1], [1],
        ])

    def test_parameters_of_every_length_are_read_to_their_end(self):
        for length in range(10):
            found = ask(create(2, 1), add_action(0, [1] * length), create(2, 1))
            self.assertEqual(found, [[0], [0] if length == 3 else [-22], [0]])

    def test_sixty_calls(self):
        self.assertEqual(ask(*[create(4, 3)] * 60), [[0]] * 60)

    def test_numbers_are_plain_ints_in_a_plain_list(self):
        found = answers(flat([
            create(2, 2), add_action(0, [1, 2, 1, 2]), [4, 0, 0, 1], [4, 0, 0, 1], [5, 0, 1, 0, 2],
            [3, 0, 0, 1], [6, 0, 0, 0, 0, 3], [7, 0, 0, 3], [8, 0, 1, 0, 0, 3], [9, 0, 0, 0, 3],
            [10, 0, 0, 0, 3], [11, 0, 0, 0, 3], [12, 0, 0, 3], [13, 0, 3], [14, 0, 0, 3], [15, 0, 0, 0, 0, 3],
            [16, 0, 0, 0, 3], [17, 0, 0], [18], [19, 0], [17, 0, 0], [18], [20, 0, 0, 3], [21, 0, 1, 3], [21, 0, 0, 3],
            add_action(0, [1, 3, 1, 1]), [21, 0, 1, 3], [2, 0, 0], [2, 0, 0],
        ]))
        self.assertIs(type(found), list)
        for number in found:
            self.assertIs(type(number), int)

    def test_nothing_is_printed(self):
        said = io.StringIO()
        with contextlib.redirect_stdout(said), contextlib.redirect_stderr(said):
            ask(create(2, 1), add_action(0, [1, 1, 1]), value(0, 0, 0, 0, 4), value(9, 0, 0, 0, 4))
        self.assertEqual(said.getvalue(), "")


class NothingKept(unittest.TestCase):
    CALLS = flat([
        create(2, 2),
        add_action(0, [4, 0, 0, 1]),
        add_action(0, [3, 1, 2, 1]),
        add_action(1, [5, -9, 3, 1]),
        [3, 0, 0, 2],
        [4, 0, 1, 1],
        [6, 0, 0, 0, 0, 4],
        [9, 0, 0, 0, 4],
        add_action(0, [10, 0, 0, 1]),
        [11, 0, 0, 0, 4],
        [12, 0, 0, 4],
        [13, 0, 4],
        [14, 0, 0, 4],
        [15, 1, 0, 0, 0, 4],
        [16, 0, 0, 0, 4],
        [17, 0, 0],
        [18],
        [20, 0, 0, 4],
        [19, 0],
        [20, 0, 0, 4],
        [21, 0, 1, 4],
        [2, 0, 0],
        [6, 0, 0, 0, 0, 4],
    ])

    def test_what_is_handed_in_is_the_same_afterwards(self):
        handed = list(self.CALLS)
        answers(handed)
        self.assertEqual(handed, self.CALLS)

    def test_a_second_time_gives_the_same(self):
        first = answers(self.CALLS)
        second = answers(self.CALLS)
        self.assertEqual(first, second)
        self.assertIsNot(first, second)

    def test_the_answers_given_back_may_be_changed(self):
        first = answers(self.CALLS)
        kept = list(first)
        first.clear()
        self.assertEqual(answers(self.CALLS), kept)

    def test_a_process_is_gone_the_next_time(self):
        ask(create(2, 1), add_action(0, [1, 1, 1]))
        self.assertEqual(ask(value(0, 0, 0, 0, 1)), [[-11]])

    def test_twins_are_gone_the_next_time(self):
        twice = [after(EXAMPLE, actions_without_twin(), add_twins(0), has_twin(0, 0), remove_action(0, 2))
                 for _ in range(2)]
        self.assertEqual(twice, [[[1, 0, 0], [1], [1], [2]]] * 2)


class Refusals(unittest.TestCase):
    def test_a_refused_call_changes_nothing(self):
        most = 4294967295
        wrong = [[call[0]] + [most] * (len(call) - 1) for call in EVERY_CALL_BUT_CREATE[1:] if call != [18]]
        asked = [change_costs(0, 0, 0, 4), actions_without_twin(), set_lock(0, 0, 0), [3, 0, 0, 2], remove_action(0, 0),
                 remove_action(1, 0)]
        found = after(EXAMPLE, *wrong, *asked)
        self.assertEqual(found[:len(wrong)], [[-2]] * len(wrong))
        self.assertEqual(found[len(wrong):], after(EXAMPLE, *asked))


class NoProcess(unittest.TestCase):
    def test_every_call_is_refused_before_the_first_create(self):
        for call in EVERY_CALL_BUT_CREATE:
            with self.subTest(call=call):
                self.assertEqual(ask(call), [[-11]])

    def test_this_comes_before_all_other_checks(self):
        most = 4294967295
        for call in EVERY_CALL_BUT_CREATE[1:]:
            wrong = [call[0]] + [most] * (len(call) - 1)
            with self.subTest(call=wrong):
                self.assertEqual(ask(wrong), [[-11]])
        self.assertEqual(ask(add_action(most, [])), [[-11]])
        self.assertEqual(ask(add_action(0, [most // 2] * 9)), [[-11]])

    def test_a_create_that_fails_makes_no_process(self):
        self.assertEqual(ask(create(5, 1), *EVERY_CALL_BUT_CREATE), [[-22]] + [[-11]] * 21)

    def test_a_refused_call_leaves_the_later_ones_as_they_are(self):
        self.assertEqual(ask(value(0, 0, 0, 0, 1), create(2, 1), value(0, 0, 0, 0, 1)), [[-11], [0], [0, 0, 1]])


class Create(unittest.TestCase):
    def test_all_sizes(self):
        for states in range(7):
            for goals in range(6):
                allowed = 2 <= states <= 4 and 1 <= goals <= 3
                with self.subTest(states=states, goals=goals):
                    self.assertEqual(ask(create(states, goals)), [[0] if allowed else [-22]])

    def test_far_too_great_sizes(self):
        for states, goals in ((4294967295, 1), (2, 4294967295), (4294967295, 4294967295)):
            self.assertEqual(ask(create(states, goals)), [[-22]])

    def test_states_and_goals_are_as_many_as_told(self):
        for states in (2, 3, 4):
            for goals in (1, 2, 3):
                with self.subTest(states=states, goals=goals):
                    self.assertEqual(last(create(states, goals), value(goals - 1, states - 1, 0, 0, 1)), [0, 0, 1])
                    self.assertEqual(last(create(states, goals), value(0, states, 0, 0, 1)), [-2])
                    self.assertEqual(last(create(states, goals), value(goals, 0, 0, 0, 1)), [-2])

    def test_there_are_no_actions_at_first(self):
        for state in range(4):
            self.assertEqual(last(create(4, 1), [2, state, 0]), [-2])

    def test_a_create_that_fails_keeps_the_process(self):
        for wrong in (create(1, 2), create(5, 2), create(3, 0), create(3, 4), create(0, 0)):
            found = ask(create(3, 2), add_action(2, [7, 8, 0, 0, 1]), wrong, value(1, 2, 0, 0, 1))
            self.assertEqual(found, [[0], [0], [-22], [0, 8, 1]])

    def test_a_second_create_replaces_the_process(self):
        found = ask(
            create(3, 3), add_action(0, [1, 2, 3, 1, 1, 1]), [3, 0, 0, 3], [4, 0, 0, 1], create(2, 1),
            value(0, 0, 0, 0, 1), value(0, 2, 0, 0, 1), value(1, 0, 0, 0, 1),
            add_action(0, [1, 1, 1]), [3, 0, 0, 0], [4, 0, 0, 0],
        )
        self.assertEqual(found[4:], [[0], [0, 0, 1], [-2], [-2], [0], [0], [0]])

    def test_a_second_create_of_the_same_sizes_has_no_actions(self):
        self.assertEqual(ask(create(2, 1), add_action(1, [1, 1, 1]), create(2, 1), [2, 1, 0])[2:], [[0], [-2]])


if __name__ == "__main__":
    unittest.main()
