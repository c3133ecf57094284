"""address_count and valid_prefix_count."""

import unittest

from tests.calls import (
    ALL_PREFIXES, BIGGEST, RESET, add_roa, address_count, announce, announcers, ask, full_announcements,
    full_roas, last, remove_roa, run, set_strict, some_calls, tighten_roas, valid_prefix_count,
    validities, withdraw,
)


def counts(history):
    """What address_count answers for each member."""
    return ask(history, [address_count(member) for member in range(8)])


class AddressCount(unittest.TestCase):

    def test_what_is_answered(self):
        history = [RESET, announce(0, 2, 1, 1), announce(0, 3, 4, 1)]
        self.assertEqual(last(*history, address_count(1)), [8, 48])
        self.assertEqual(last(*history, address_count(4)), [8, 48])
        self.assertEqual(last(*history, address_count(2)), [0, 48])

    def test_nothing_is_announced(self):
        self.assertEqual(counts([RESET]), [[0, 64]] * 8)
        self.assertEqual(counts([RESET, set_strict(1)]), [[0, 64]] * 8)

    def test_a_prefix_of_length_0_and_prefixes_of_length_6(self):
        history = [RESET, announce(0, 0, 7, 7)]
        self.assertEqual(counts(history), [[0, 0]] * 7 + [[64, 0]])
        history += [announce(0, 6, 0, 0), announce(63, 6, 0, 0)]
        self.assertEqual(counts(history), [[2, 0]] + [[0, 0]] * 6 + [[62, 0]])

    def test_it_is_the_announcer_that_counts(self):
        self.assertEqual(last(RESET, announce(0, 1, 3, 5), address_count(3)), [32, 32])
        self.assertEqual(last(RESET, announce(0, 1, 3, 5), address_count(5)), [0, 32])

    def test_two_announcers_of_the_same_prefix(self):
        history = [RESET, announce(16, 2, 6, 6), announce(16, 2, 2, 2)]
        self.assertEqual(counts(history)[2], [16, 48])
        self.assertEqual(counts(history)[6], [0, 48])
        self.assertEqual(last(*history, withdraw(16, 2, 2, 2), address_count(6)), [16, 48])

    def test_an_address_counts_once(self):
        history = [RESET, announce(0, 2, 1, 1), announce(0, 3, 1, 1), announce(0, 2, 1, 2)]
        self.assertEqual(last(*history, address_count(1)), [16, 48])

    def test_dropped_announcements_do_not_count(self):
        history = [RESET, add_roa(0, 2, 2, 1), announce(0, 2, 2, 2), announce(32, 1, 2, 2)]
        self.assertEqual(last(*history, address_count(2)), [32, 32])
        self.assertEqual(last(*history, set_strict(1), address_count(2)), [0, 64])
        self.assertEqual(last(*history, remove_roa(0), address_count(2)), [48, 16])

    def test_sixteen_announcements(self):
        history = [RESET] + full_announcements(16, 7)
        self.assertEqual(last(*history, address_count(7)), [16, 48])
        self.assertEqual(last(*history, address_count(0)), [0, 48])

    def test_it_is_what_destination_tells(self):
        for seed in range(6):
            history = some_calls(seed)[:120]
            found = announcers(history)
            self.assertEqual(
                counts(history), [[found.count(member), found.count(None)] for member in range(8)])

    def test_no_member(self):
        for member in (8, 9, BIGGEST):
            self.assertEqual(last(RESET, announce(0, 0, 1, 1), address_count(member)), [-2])


class ValidPrefixCount(unittest.TestCase):

    def test_no_roas(self):
        for member in range(8):
            self.assertEqual(run(RESET, valid_prefix_count(member))[1], [0])

    def test_one_roa(self):
        history = [RESET, add_roa(0, 2, 3, 1)]
        self.assertEqual(last(*history, valid_prefix_count(1)), [3])
        self.assertEqual(last(*history, valid_prefix_count(2)), [0])
        self.assertEqual(last(*history, tighten_roas(1), valid_prefix_count(1)), [0])

    def test_every_length_and_max_length(self):
        for length in range(7):
            for max_length in range(length, 7):
                with self.subTest(length=length, max_length=max_length):
                    self.assertEqual(
                        last(RESET, add_roa(0, length, max_length, 7), valid_prefix_count(7)),
                        [2 ** (max_length - length + 1) - 1])

    def test_all_prefixes(self):
        self.assertEqual(last(RESET, add_roa(0, 0, 6, 0), valid_prefix_count(0)), [127])
        self.assertEqual(len(set(ALL_PREFIXES)), 127)

    def test_the_first_and_the_last_address(self):
        for address in (0, 63):
            self.assertEqual(last(RESET, add_roa(address, 6, 6, 3), valid_prefix_count(3)), [1])

    def test_a_prefix_that_two_roas_authorize_counts_once(self):
        history = [RESET, add_roa(0, 1, 3, 1), add_roa(0, 2, 4, 1)]
        self.assertEqual(last(*history, valid_prefix_count(1)), [7 + 4])

    def test_roas_of_others_take_nothing_away(self):
        history = [RESET, add_roa(0, 1, 3, 1), add_roa(0, 0, 6, 2), add_roa(0, 2, 2, 3)]
        found = ask(history, [valid_prefix_count(member) for member in range(4)])
        self.assertEqual(found, [[0], [7], [127], [1]])

    def test_twelve_roas(self):
        self.assertEqual(last(RESET, *full_roas(12), valid_prefix_count(0)), [12])

    def test_announcements_and_strict_mode_have_no_part_in_it(self):
        history = [RESET, add_roa(0, 2, 3, 1), announce(0, 2, 1, 1), announce(32, 1, 1, 1)]
        self.assertEqual(last(*history, valid_prefix_count(1)), [3])
        self.assertEqual(last(*history, set_strict(1), valid_prefix_count(1)), [3])

    def test_it_is_what_validity_tells(self):
        for seed in range(6):
            history = some_calls(seed)[:120]
            found = validities(history)
            expected = [[found[member::8].count([1])] for member in range(8)]
            self.assertEqual(ask(history, [valid_prefix_count(member) for member in range(8)]), expected)

    def test_adding_a_roa_never_makes_it_less(self):
        calls = [add_roa(0, 1, 3, 1), add_roa(0, 0, 0, 2), add_roa(0, 2, 2, 1), add_roa(0, 3, 6, 3)]
        found = run(RESET, *[one for call in calls for one in (call, valid_prefix_count(1))])[2::2]
        self.assertEqual(found, [[7], [7], [7], [7]])

    def test_no_member(self):
        for member in (8, 9, BIGGEST):
            self.assertEqual(last(RESET, add_roa(0, 0, 6, 0), valid_prefix_count(member)), [-2])


if __name__ == "__main__":
    unittest.main()
