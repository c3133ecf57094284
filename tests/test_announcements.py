"""announce and withdraw."""

import unittest

from tests.calls import (
    BIGGEST, RESET, add_roa, announce, announcers, destination, destinations, full_announcements,
    last, remove_roa, run, set_strict, stored_announcements, withdraw,
)


class Announce(unittest.TestCase):

    def test_the_validity_is_answered(self):
        history = [RESET, add_roa(0, 2, 3, 1)]
        self.assertEqual(last(*history, announce(0, 2, 1, 1)), [1, 16])
        self.assertEqual(last(*history, announce(0, 3, 4, 1)), [1, 8])
        self.assertEqual(last(*history, announce(0, 4, 1, 1)), [2, 0])
        self.assertEqual(last(*history, announce(0, 2, 1, 4)), [2, 0])
        self.assertEqual(last(*history, announce(0, 1, 1, 1)), [0, 32])
        self.assertEqual(last(*history, announce(16, 2, 1, 1)), [0, 16])

    def test_edges_that_are_taken(self):
        self.assertEqual(last(RESET, announce(0, 0, 0, 0)), [0, 64])
        self.assertEqual(last(RESET, announce(0, 0, 7, 7)), [0, 64])
        self.assertEqual(last(RESET, announce(0, 6, 7, 0)), [0, 1])
        self.assertEqual(last(RESET, announce(63, 6, 0, 7)), [0, 1])

    def test_every_first_address(self):
        for length in range(7):
            size = 2 ** (6 - length)
            for address in range(70):
                fair = address <= 63 and address % size == 0
                with self.subTest(address=address, length=length):
                    self.assertEqual(
                        last(RESET, announce(address, length, 0, 0)), [0, size] if fair else [-22])

    def test_no_member(self):
        for number in (8, BIGGEST):
            self.assertEqual(last(RESET, announce(0, 2, number, 0)), [-2])
            self.assertEqual(last(RESET, announce(0, 2, 0, number)), [-2])
            self.assertEqual(last(RESET, announce(0, 2, number, number)), [-2])

    def test_no_prefix(self):
        for address, length in ((64, 6), (64, 0), (1, 5), (32, 0), (0, 7), (BIGGEST, 6), (0, BIGGEST)):
            self.assertEqual(last(RESET, announce(address, length, 0, 0)), [-22])

    def test_an_announcement_that_exists(self):
        self.assertEqual(last(RESET, announce(0, 2, 1, 2), announce(0, 2, 1, 2)), [-17])

    def test_one_other_field_makes_another_announcement(self):
        for other in ((16, 2, 1, 2), (0, 3, 1, 2), (0, 2, 0, 2), (0, 2, 1, 3)):
            with self.subTest(announcement=other):
                found = last(RESET, announce(0, 2, 1, 2), announce(*other))
                self.assertEqual(found[0], 0)

    def test_the_sixteenth_and_the_seventeenth(self):
        found = run(RESET, *full_announcements(17))
        self.assertEqual(found[16], [0, 1])
        self.assertEqual(found[17], [-28])

    def test_room_again_after_a_withdrawal(self):
        history = [RESET] + full_announcements(16)
        self.assertEqual(last(*history, withdraw(3, 6, 0, 0), announce(20, 6, 0, 0)), [0, 1])

    def test_which_error_is_checked_first(self):
        full = [RESET] + full_announcements(16)
        self.assertEqual(last(RESET, announce(1, 2, 8, 0)), [-2])
        self.assertEqual(last(RESET, announce(0, 7, 0, 8)), [-2])
        self.assertEqual(last(RESET, announce(BIGGEST, BIGGEST, BIGGEST, BIGGEST)), [-2])
        self.assertEqual(last(*full, announce(0, 2, 8, 0)), [-2])
        self.assertEqual(last(*full, announce(0, 2, 0, 8)), [-2])
        self.assertEqual(last(*full, announce(1, 2, 0, 0)), [-22])
        self.assertEqual(last(*full, announce(0, 7, 0, 0)), [-22])
        self.assertEqual(last(*full, announce(15, 6, 0, 0)), [-17])
        self.assertEqual(last(*full, announce(0, 2, 0, 0)), [-28])

    def test_a_dropped_announcement_is_stored(self):
        history = [RESET, add_roa(0, 2, 2, 1), announce(0, 2, 2, 2)]
        self.assertEqual(run(*history)[2], [2, 0])
        self.assertEqual(last(*history, announce(0, 2, 2, 2)), [-17])
        self.assertEqual(last(*history, destination(0)), [-33])
        self.assertEqual(last(*history, remove_roa(0)), [0, 16])
        self.assertEqual(last(*history, withdraw(0, 2, 2, 2)), [0, 0])

    def test_one_that_is_not_found_is_stored_in_strict_mode(self):
        history = [RESET, set_strict(1), announce(0, 2, 2, 2)]
        self.assertEqual(run(*history)[2], [0, 0])
        self.assertEqual(last(*history, set_strict(0)), [1, 16])

    def test_dropped_announcements_count_for_the_limit(self):
        history = [RESET, add_roa(0, 0, 0, 1)] + full_announcements(16)
        self.assertEqual(last(*history), [2, 0])
        self.assertEqual(last(*history, announce(0, 0, 1, 1)), [-28])

    def test_only_addresses_with_another_announcer_have_moved(self):
        history = [RESET, announce(0, 2, 1, 1), announce(0, 4, 2, 2)]
        self.assertEqual(run(*history)[1:], [[0, 16], [0, 4]])
        self.assertEqual(last(*history, announce(0, 1, 1, 1)), [0, 16])
        self.assertEqual(last(*history, announce(0, 3, 1, 1)), [0, 0])
        self.assertEqual(last(*history, announce(0, 3, 3, 3)), [0, 4])
        self.assertEqual(last(*history, announce(0, 2, 1, 0)), [0, 0])

    def test_a_prefix_of_length_0_and_one_of_length_6(self):
        history = [RESET, announce(0, 0, 1, 1), announce(63, 6, 2, 2)]
        self.assertEqual(run(*history)[1:], [[0, 64], [0, 1]])
        self.assertEqual(announcers(history), [1] * 63 + [2])


class Withdraw(unittest.TestCase):

    def test_the_count_goes_down(self):
        found = run(
            RESET, announce(0, 2, 1, 1), announce(16, 2, 2, 2), announce(0, 3, 3, 1),
            withdraw(16, 2, 2, 2), withdraw(0, 2, 1, 1), withdraw(0, 3, 3, 1), withdraw(0, 3, 3, 1))
        self.assertEqual(found[4:], [[2, 16], [1, 8], [0, 8], [-6]])

    def test_only_the_one_is_removed(self):
        kept = [(0, 2, 1, 1), (0, 2, 1, 2), (0, 2, 2, 1), (0, 3, 1, 1), (16, 2, 1, 1)]
        history = [RESET] + [announce(*one) for one in kept]
        for one in kept:
            left = [other for other in kept if other != one]
            with self.subTest(announcement=one):
                self.assertEqual(stored_announcements(history + [withdraw(*one)]), left)
                self.assertEqual(last(*history, withdraw(*one))[0], 4)

    def test_edges_that_are_taken(self):
        for one in ((0, 0, 0, 7), (63, 6, 7, 0)):
            self.assertEqual(last(RESET, announce(*one), withdraw(*one))[0], 0)

    def test_no_member(self):
        for number in (8, BIGGEST):
            self.assertEqual(last(RESET, announce(0, 2, 0, 0), withdraw(0, 2, number, 0)), [-2])
            self.assertEqual(last(RESET, announce(0, 2, 0, 0), withdraw(0, 2, 0, number)), [-2])

    def test_no_such_announcement(self):
        history = [RESET, announce(0, 2, 1, 2)]
        for other in ((16, 2, 1, 2), (0, 3, 1, 2), (0, 2, 0, 2), (0, 2, 1, 3), (0, 2, 2, 1)):
            with self.subTest(announcement=other):
                self.assertEqual(last(*history, withdraw(*other)), [-6])
        self.assertEqual(last(RESET, withdraw(0, 0, 0, 0)), [-6])

    def test_no_prefix_is_no_such_announcement(self):
        for address, length in ((1, 2), (64, 6), (0, 7), (BIGGEST, 6), (0, BIGGEST)):
            self.assertEqual(last(RESET, announce(0, 2, 0, 0), withdraw(address, length, 0, 0)), [-6])

    def test_which_error_is_checked_first(self):
        self.assertEqual(last(RESET, withdraw(0, 2, 8, 0)), [-2])
        self.assertEqual(last(RESET, withdraw(0, 2, 0, 8)), [-2])
        self.assertEqual(last(RESET, withdraw(1, 2, 0, 8)), [-2])
        self.assertEqual(last(RESET, withdraw(BIGGEST, BIGGEST, BIGGEST, BIGGEST)), [-2])

    def test_it_can_be_announced_again(self):
        history = [RESET, announce(0, 2, 1, 1), withdraw(0, 2, 1, 1)]
        self.assertEqual(last(*history, announce(0, 2, 1, 1)), [0, 16])

    def test_addresses_move_back_to_the_less_preferred(self):
        history = [RESET, announce(0, 1, 1, 1), announce(0, 2, 2, 2), announce(0, 3, 1, 1)]
        self.assertEqual(last(*history, withdraw(0, 2, 2, 2)), [2, 8])
        self.assertEqual(last(*history, withdraw(0, 3, 1, 1)), [2, 8])
        self.assertEqual(destinations(history + [withdraw(0, 3, 1, 1)])[0], [2, 2, 0, 2])

    def test_a_dropped_announcement_moves_nothing(self):
        history = [RESET, announce(0, 1, 1, 1), announce(0, 2, 2, 2), add_roa(0, 1, 6, 1)]
        self.assertEqual(last(*history, withdraw(0, 2, 2, 2)), [1, 0])


if __name__ == "__main__":
    unittest.main()
