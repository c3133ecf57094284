"""The flat lists that go in and come back, reset, and -11."""

import unittest

from originways.answer import answers
from tests.calls import (
    BIGGEST, DROPPED_ANNOUNCEMENTS, LIST_ANNOUNCEMENTS, LIST_ROAS, RESET, add_roa, address_count,
    announce, destination, full_announcements, full_roas, hijackers, last, preview_announce,
    preview_tighten, remove_roa, run, set_strict, state, tighten_roas, valid_prefix_count,
    validity, vulnerable_addresses, withdraw,
)

EXAMPLE = [
    0,
    1, 0, 2, 3, 1,
    3, 0, 2, 1, 1,
    3, 0, 3, 4, 1,
    8, 5,
    6, 1,
    7, 0, 3, 1,
    8, 5,
    10, 5,
    4, 0, 1, 1, 1,
]
EXAMPLE_ANSWERS = [
    1, 0,
    2, 0, 0,
    2, 1, 16,
    2, 1, 8,
    4, 4, 1, 0, 3,
    2, 1, 8,
    1, 2,
    4, 1, 1, 0, 2,
    1, 0,
    1, -6,
]

# One call of each number but reset, such as nothing is wrong with.
FAIR_CALLS = [
    add_roa(0, 2, 3, 1), remove_roa(0), announce(0, 2, 1, 1), withdraw(0, 2, 1, 1),
    set_strict(1), tighten_roas(1), validity(0, 2, 1), destination(5),
    address_count(1), hijackers(5), vulnerable_addresses(1), preview_tighten(1),
    preview_announce(0, 2, 1, 1), DROPPED_ANNOUNCEMENTS, valid_prefix_count(1), LIST_ROAS,
    LIST_ANNOUNCEMENTS,
]
# One call of each number that has an error of its own, with that error.
WRONG_CALLS = [
    add_roa(1, 2, 7, 8), remove_roa(12), announce(1, 2, 8, 8), withdraw(1, 2, 8, 8),
    set_strict(2), tighten_roas(8), validity(1, 2, 8), destination(64),
    address_count(8), hijackers(64), vulnerable_addresses(8), preview_tighten(8),
    preview_announce(1, 2, 8, 8), valid_prefix_count(8),
]
# 12 ROAs, 16 announcements and the switch: valid, invalid and not found, of many lengths.
LARGE = (
    [RESET]
    + [add_roa(0, 0, 2, origin) for origin in range(1, 8)]
    + [add_roa(0, 1, 3, origin) for origin in range(1, 5)] + [add_roa(0, 2, 3, 0)]
    + [announce(0, 0, member, member) for member in range(8)]
    + [announce(0, 1, member, 1) for member in range(4)]
    + [announce(8 * place, 3, 5, place) for place in range(4)]
    + [set_strict(0)]
)
# A question of each number from 7 on.
QUESTIONS = [
    validity(0, 6, 7), destination(63), address_count(5), hijackers(63), vulnerable_addresses(1),
    preview_tighten(1), preview_announce(0, 3, 0, 0), DROPPED_ANNOUNCEMENTS, valid_prefix_count(1),
    LIST_ROAS, LIST_ANNOUNCEMENTS,
]


class FlatLists(unittest.TestCase):

    def test_the_example_of_the_document(self):
        self.assertEqual(answers(EXAMPLE), EXAMPLE_ANSWERS)

    def test_a_single_call(self):
        self.assertEqual(answers([0]), [1, 0])

    def test_what_is_handed_in_is_not_changed(self):
        given = list(EXAMPLE)
        answers(given)
        self.assertEqual(given, EXAMPLE)

    def test_a_new_list_comes_back_each_time(self):
        first = answers(EXAMPLE)
        first.append(99)
        self.assertEqual(answers(EXAMPLE), EXAMPLE_ANSWERS)

    def test_two_lists_know_nothing_of_each_other(self):
        answers(EXAMPLE)
        self.assertEqual(answers([8, 5]), [1, -11])
        answers([0, 5, 1, 1, 0, 2, 3, 1, 3, 0, 2, 1, 1])
        self.assertEqual(answers([0, 8, 5]), [1, 0, 1, -33])
        self.assertEqual(answers([0, 2, 0]), [1, 0, 1, -2])
        self.assertEqual(answers([0, 5, 0]), [1, 0, 2, 0, 0])
        self.assertEqual(answers([0, 16, 17]), [1, 0, 1, 0, 2, 0, 0])
        self.assertEqual(answers([0, 10, 5])[2:], [9, 8, 0, 1, 2, 3, 4, 5, 6, 7])
        self.assertEqual(answers([16]), [1, -11])
        self.assertEqual(answers(EXAMPLE), EXAMPLE_ANSWERS)

    def test_whole_numbers_alone_come_back(self):
        given = EXAMPLE + [5, 1, 5, 0, 5, 2, 2, 0, 8, 64, 8, 63]
        found = answers(given)
        self.assertIs(type(found), list)
        self.assertEqual({type(number) for number in found}, {int})

    def test_lists_come_back_flat(self):
        self.assertEqual(
            answers([0, 16, 17, 14, 1, 0, 2, 3, 1, 3, 0, 2, 1, 1, 3, 16, 2, 2, 1, 5, 1, 16, 17, 14]),
            [1, 0, 1, 0, 2, 0, 0, 1, 0, 2, 0, 0, 2, 1, 16, 2, 0, 16, 2, 0, 16]
            + [5, 1, 0, 2, 3, 1] + [10, 2, 1, 0, 2, 1, 1, 16, 2, 2, 1] + [5, 1, 16, 2, 2, 1])
        self.assertEqual(
            answers([0, 3, 0, 5, 1, 1, 10, 0, 11, 1, 13, 0, 5, 0, 0, 13, 0, 5, 1, 0]),
            [1, 0, 2, 0, 2] + [8, 7, 0, 2, 3, 4, 5, 6, 7] + [3, 2, 0, 1] + [3, 2, 0, 1] + [1, 0])

    def test_four_hundred_calls(self):
        calls = [RESET] + full_roas(12) + full_announcements(16)
        calls += [destination(address % 64) for address in range(400 - len(calls))]
        found = run(*calls)
        self.assertEqual(len(found), 400)
        self.assertEqual(found[29], [0, 0, 0, 6])

    def test_four_hundred_calls_over_all_roas_and_announcements(self):
        self.assertEqual(run(*LARGE)[12][0], 11)
        self.assertEqual(len(run(*LARGE, LIST_ANNOUNCEMENTS)[-1]), 2 + 16 * 4)
        for question in QUESTIONS:
            with self.subTest(question=question):
                expected = last(*LARGE, question)
                self.assertGreaterEqual(expected[0], 0)
                times = 400 - len(LARGE)
                self.assertEqual(run(*LARGE, *[question] * times)[len(LARGE):], [expected] * times)

    def test_four_hundred_changes_over_all_roas_and_announcements(self):
        changes = [
            remove_roa(11), add_roa(0, 2, 3, 0), withdraw(0, 0, 0, 0), announce(0, 0, 0, 0),
            set_strict(1), set_strict(0),
        ]
        times = (400 - len(LARGE)) // len(changes)
        found = run(*LARGE, *changes * times)[len(LARGE):]
        self.assertEqual([answer[0] for answer in found[:6]], [11, 11, 15, 2, 0, 1])
        self.assertEqual([answer[0] for answer in found[-6:]], [11, 11, 15, 2, 0, 1])


class BeforeTheFirstReset(unittest.TestCase):

    def test_each_call_is_refused(self):
        for call in FAIR_CALLS:
            with self.subTest(call=call):
                self.assertEqual(run(call), [[-11]])

    def test_it_is_checked_ahead_of_every_other_error(self):
        for call in WRONG_CALLS:
            with self.subTest(call=call):
                self.assertEqual(run(call), [[-11]])
                biggest = (call[0],) + (BIGGEST,) * (len(call) - 1)
                self.assertEqual(run(biggest), [[-11]])

    def test_refused_calls_leave_nothing_behind(self):
        self.assertEqual(state(FAIR_CALLS + WRONG_CALLS + [RESET]), state([RESET]))

    def test_it_holds_until_the_reset_alone(self):
        self.assertEqual(run(destination(0), RESET, destination(0)), [[-11], [0], [-33]])


class Reset(unittest.TestCase):

    def test_the_initial_state(self):
        found = state([RESET])
        self.assertEqual(found["listed"], [[0], [0, 0], [0]])
        self.assertEqual(found["roas"], [])
        self.assertEqual(found["without a ROA"], [-2])
        self.assertEqual(found["announcements"], [])
        self.assertEqual(found["strict"], [0, 0])
        self.assertEqual(found["destinations"], [[-33]] * 64)
        self.assertEqual(found["validities"], [[0]] * (127 * 8))

    def test_a_second_reset_replaces_the_registry(self):
        history = [RESET, add_roa(0, 2, 3, 1), announce(0, 2, 1, 1), announce(32, 1, 2, 2), set_strict(1)]
        self.assertNotEqual(state(history), state([RESET]))
        self.assertEqual(last(*history, RESET), [0])
        self.assertEqual(state(history + [RESET]), state([RESET]))

    def test_a_second_reset_makes_room_again(self):
        full = [RESET] + full_roas(12) + full_announcements(16)
        found = run(*full, *full)
        self.assertEqual(found[len(full):], found[:len(full)])
        self.assertEqual(found[-1], [0, 1])


if __name__ == "__main__":
    unittest.main()
