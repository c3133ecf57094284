"""set_strict, and strict mode."""

import unittest

from tests.calls import (
    BIGGEST, RESET, add_roa, announce, destination, destinations, last, moved, run, set_strict,
    validity,
)

# A valid, an invalid and a not found announcement of the member 1, 2 and 3.
MIXED = [
    RESET, add_roa(0, 2, 3, 1),
    announce(0, 3, 1, 1), announce(0, 4, 2, 2), announce(32, 1, 3, 3),
]


class SetStrict(unittest.TestCase):

    def test_the_previous_setting_is_answered(self):
        found = run(
            RESET, set_strict(0), set_strict(1), set_strict(1), set_strict(0), set_strict(0))
        self.assertEqual(found[1:], [[0, 0], [0, 0], [1, 0], [1, 0], [0, 0]])

    def test_neither_on_nor_off(self):
        for strict in (2, 3, BIGGEST):
            self.assertEqual(last(RESET, set_strict(strict)), [-22])
            self.assertEqual(last(RESET, set_strict(1), set_strict(strict), set_strict(0)), [1, 0])

    def test_addresses_move_to_and_from_no_destination(self):
        found = run(*MIXED, set_strict(1), set_strict(1), set_strict(0), set_strict(0))
        self.assertEqual(found[5:], [[0, 32], [1, 0], [1, 32], [0, 0]])
        self.assertEqual(moved(MIXED, set_strict(1)), 32)

    def test_addresses_move_to_another_announcer(self):
        history = [RESET, add_roa(0, 1, 1, 1), announce(0, 1, 1, 1), announce(0, 0, 2, 2)]
        self.assertEqual(last(*history, set_strict(1)), [0, 32])
        deeper = [RESET, add_roa(0, 0, 0, 1), announce(0, 0, 1, 1), announce(0, 2, 2, 2)]
        self.assertEqual(last(*deeper, set_strict(1)), [0, 0])

    def test_only_valid_announcements_are_accepted_in_strict_mode(self):
        found = destinations(MIXED + [set_strict(1)])
        self.assertEqual(found, [[1, 1, 0, 3]] * 8 + [[-33]] * 56)

    def test_what_is_not_found_is_accepted_while_it_is_off(self):
        found = destinations(MIXED)
        self.assertEqual(found, [[1, 1, 0, 3]] * 8 + [[-33]] * 24 + [[3, 3, 32, 1]] * 32)
        self.assertEqual(destinations(MIXED + [set_strict(1), set_strict(0)]), found)

    def test_validity_knows_nothing_of_strict_mode(self):
        for prefix, code in (((0, 3, 1), 1), ((0, 4, 2), 2), ((32, 1, 3), 0)):
            self.assertEqual(last(*MIXED, validity(*prefix)), [code])
            self.assertEqual(last(*MIXED, set_strict(1), validity(*prefix)), [code])

    def test_it_holds_for_later_calls(self):
        found = run(
            RESET, set_strict(1), announce(0, 1, 1, 1), add_roa(0, 1, 1, 1), destination(0))
        self.assertEqual(found[2:], [[0, 0], [0, 32], [1, 1, 0, 1]])

    def test_no_roas(self):
        history = [RESET, announce(0, 0, 1, 1), announce(32, 1, 2, 1)]
        self.assertEqual(destinations(history), [[1, 1, 0, 0]] * 32 + [[2, 1, 32, 1]] * 32)
        self.assertEqual(last(*history, set_strict(1)), [0, 64])
        self.assertEqual(destinations(history + [set_strict(1)]), [[-33]] * 64)


if __name__ == "__main__":
    unittest.main()
