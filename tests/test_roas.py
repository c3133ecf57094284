"""add_roa and remove_roa."""

import unittest

from tests.calls import (
    BIGGEST, RESET, add_roa, announce, full_roas, last, moved, remove_roa, run, set_strict,
    stored_roas, validity,
)


class AddRoa(unittest.TestCase):

    def test_the_index_counts_up(self):
        found = run(RESET, add_roa(0, 0, 6, 0), add_roa(32, 1, 1, 7), add_roa(63, 6, 6, 7))
        self.assertEqual(found[1:], [[0, 0], [1, 0], [2, 0]])

    def test_edges_that_are_taken(self):
        edges = [
            (0, 0, 0, 0), (0, 0, 6, 7), (0, 6, 6, 0), (63, 6, 6, 7), (62, 5, 5, 0),
            (62, 5, 6, 0), (32, 1, 1, 3), (48, 2, 6, 3), (56, 3, 4, 3), (60, 4, 5, 3),
        ]
        for edge in edges:
            with self.subTest(roa=edge):
                self.assertEqual(last(RESET, add_roa(*edge)), [0, 0])

    def test_every_max_length_from_length_to_6(self):
        for length in range(7):
            for max_length in range(9):
                expected = [0, 0] if length <= max_length <= 6 else [-22]
                with self.subTest(length=length, max_length=max_length):
                    self.assertEqual(last(RESET, add_roa(0, length, max_length, 0)), expected)

    def test_every_first_address(self):
        for length in range(7):
            for address in range(70):
                fair = address <= 63 and address % 2 ** (6 - length) == 0
                with self.subTest(address=address, length=length):
                    self.assertEqual(
                        last(RESET, add_roa(address, length, 6, 0)), [0, 0] if fair else [-22])

    def test_no_member(self):
        for origin in (8, 9, BIGGEST):
            self.assertEqual(last(RESET, add_roa(0, 2, 3, origin)), [-2])

    def test_no_prefix(self):
        for address, length in ((64, 6), (64, 0), (1, 5), (32, 0), (0, 7), (BIGGEST, 6), (0, BIGGEST)):
            self.assertEqual(last(RESET, add_roa(address, length, 6, 0)), [-22])

    def test_max_length_out_of_range(self):
        for length, max_length in ((2, 1), (6, 5), (6, 0), (0, 7), (6, 7), (2, BIGGEST)):
            self.assertEqual(last(RESET, add_roa(0, length, max_length, 0)), [-22])
        self.assertEqual(last(RESET, add_roa(0, 7, 7, 0)), [-22])

    def test_a_roa_that_exists(self):
        self.assertEqual(run(RESET, add_roa(0, 2, 3, 1), add_roa(0, 2, 3, 1))[2], [-17])

    def test_one_other_field_makes_another_roa(self):
        others = [(16, 2, 3, 1), (0, 3, 3, 1), (0, 2, 2, 1), (0, 2, 3, 0)]
        for other in others:
            with self.subTest(roa=other):
                self.assertEqual(last(RESET, add_roa(0, 2, 3, 1), add_roa(*other)), [1, 0])

    def test_the_twelfth_and_the_thirteenth(self):
        found = run(RESET, *full_roas(13))
        self.assertEqual(found[12], [11, 0])
        self.assertEqual(found[13], [-28])

    def test_room_again_after_a_removal(self):
        self.assertEqual(last(RESET, *full_roas(12), remove_roa(3), add_roa(0, 0, 0, 0)), [11, 0])

    def test_which_error_is_checked_first(self):
        full = [RESET] + full_roas(12)
        self.assertEqual(last(RESET, add_roa(1, 2, 9, 8)), [-2])
        self.assertEqual(last(RESET, add_roa(BIGGEST, BIGGEST, BIGGEST, BIGGEST)), [-2])
        self.assertEqual(last(*full, add_roa(0, 2, 3, 8)), [-2])
        self.assertEqual(last(*full, add_roa(1, 2, 3, 0)), [-22])
        self.assertEqual(last(*full, add_roa(0, 2, 1, 0)), [-22])
        self.assertEqual(last(*full, add_roa(11, 6, 6, 0)), [-17])
        self.assertEqual(last(*full, add_roa(0, 2, 3, 0)), [-28])

    def test_addresses_move_to_no_destination(self):
        history = [RESET, announce(0, 2, 1, 2)]
        self.assertEqual(last(*history, add_roa(0, 2, 2, 1)), [0, 16])
        self.assertEqual(moved(history, add_roa(0, 2, 2, 1)), 16)

    def test_addresses_move_from_no_destination(self):
        history = [RESET, announce(0, 2, 2, 2), set_strict(1)]
        self.assertEqual(last(*history, add_roa(0, 0, 6, 2)), [0, 16])

    def test_addresses_move_to_another_announcer(self):
        history = [RESET, announce(0, 1, 1, 1), announce(0, 2, 2, 2)]
        self.assertEqual(last(*history, add_roa(0, 1, 6, 1)), [0, 16])

    def test_another_origin_of_the_same_announcer_moves_nothing(self):
        history = [RESET, announce(0, 2, 1, 1), announce(0, 2, 1, 2)]
        self.assertEqual(last(*history, add_roa(0, 2, 2, 2)), [0, 0])

    def test_a_longer_prefix_of_the_same_announcer_moves_nothing(self):
        history = [RESET, announce(0, 2, 1, 1), announce(0, 3, 1, 1)]
        self.assertEqual(last(*history, add_roa(0, 2, 2, 1)), [0, 0])


class RemoveRoa(unittest.TestCase):

    def test_the_count_goes_down(self):
        found = run(RESET, *full_roas(3), remove_roa(1), remove_roa(1), remove_roa(0), remove_roa(0))
        self.assertEqual(found[4:], [[2, 0], [1, 0], [0, 0], [-2]])

    def test_the_following_indices_decrease_by_one(self):
        for index in range(12):
            history = [RESET] + full_roas(12)
            left = [(address, 6, 6, 0) for address in range(12) if address != index]
            with self.subTest(index=index):
                self.assertEqual(stored_roas(history + [remove_roa(index)]), left)

    def test_no_such_roa(self):
        self.assertEqual(last(RESET, remove_roa(0)), [-2])
        self.assertEqual(last(RESET, *full_roas(12), remove_roa(11)), [11, 0])
        for index in (3, 11, 12, BIGGEST):
            self.assertEqual(last(RESET, *full_roas(3), remove_roa(index)), [-2])
        self.assertEqual(last(RESET, *full_roas(12), remove_roa(12)), [-2])

    def test_the_roa_holds_no_longer(self):
        history = [RESET, add_roa(0, 2, 3, 1), add_roa(0, 1, 1, 2)]
        self.assertEqual(last(*history, validity(0, 3, 1)), [1])
        self.assertEqual(last(*history, remove_roa(0), validity(0, 3, 1)), [2])
        self.assertEqual(last(*history, remove_roa(0), remove_roa(0), validity(0, 3, 1)), [0])

    def test_a_removed_roa_can_be_added_again(self):
        self.assertEqual(last(RESET, *full_roas(3), remove_roa(0), add_roa(0, 6, 6, 0)), [2, 0])

    def test_moved_addresses(self):
        dropped = [RESET, announce(0, 2, 1, 2), add_roa(0, 2, 2, 1)]
        self.assertEqual(last(*dropped, remove_roa(0)), [0, 16])
        strict = [RESET, announce(0, 3, 1, 1), add_roa(0, 2, 3, 1), set_strict(1)]
        self.assertEqual(last(*strict, remove_roa(0)), [0, 8])
        other = [RESET, announce(0, 1, 1, 1), announce(0, 2, 2, 2), add_roa(0, 1, 6, 1)]
        self.assertEqual(last(*other, remove_roa(0)), [0, 16])


if __name__ == "__main__":
    unittest.main()
