"""validity."""

import unittest

from tests.calls import (
    ALL_PREFIXES, BIGGEST, RESET, add_roa, announce, last, remove_roa, set_strict, validities,
    validity,
)


def addresses(address, length):
    return set(range(address, address + 2 ** (6 - length)))


class Validity(unittest.TestCase):

    def test_no_roas(self):
        self.assertEqual(validities([RESET]), [[0]] * (127 * 8))

    def test_the_three_codes(self):
        history = [RESET, add_roa(16, 2, 4, 1)]
        for asked, code in (
                ((16, 2, 1), 1), ((16, 4, 1), 1), ((28, 4, 1), 1), ((24, 3, 1), 1),
                ((16, 5, 1), 2), ((31, 6, 1), 2), ((16, 2, 2), 2), ((28, 4, 0), 2),
                ((0, 1, 1), 0), ((0, 0, 1), 0), ((0, 2, 1), 0), ((32, 2, 1), 0), ((15, 6, 1), 0),
                ((32, 6, 2), 0)):
            with self.subTest(asked=asked):
                self.assertEqual(last(*history, validity(*asked)), [code])

    def test_edges_that_are_taken(self):
        history = [RESET, add_roa(0, 0, 6, 7)]
        for asked, code in (
                ((0, 0, 7), 1), ((63, 6, 7), 1), ((0, 6, 7), 1), ((0, 0, 0), 2), ((63, 6, 0), 2)):
            with self.subTest(asked=asked):
                self.assertEqual(last(*history, validity(*asked)), [code])

    def test_a_roa_covers_beyond_its_max_length(self):
        history = [RESET, add_roa(0, 0, 0, 3)]
        self.assertEqual(last(*history, validity(0, 0, 3)), [1])
        self.assertEqual(last(*history, validity(0, 1, 3)), [2])
        self.assertEqual(last(*history, validity(63, 6, 3)), [2])

    def test_a_roa_of_length_6(self):
        history = [RESET, add_roa(63, 6, 6, 3)]
        self.assertEqual(last(*history, validity(63, 6, 3)), [1])
        self.assertEqual(last(*history, validity(63, 6, 4)), [2])
        self.assertEqual(last(*history, validity(62, 6, 3)), [0])
        self.assertEqual(last(*history, validity(62, 5, 3)), [0])

    def test_one_roa_that_authorizes_is_enough(self):
        inner_and_outer = [add_roa(0, 1, 3, 1), add_roa(0, 2, 4, 2)]
        for history in ([RESET] + inner_and_outer, [RESET] + inner_and_outer[::-1]):
            self.assertEqual(last(*history, validity(0, 2, 1)), [1])
            self.assertEqual(last(*history, validity(0, 2, 2)), [1])
            self.assertEqual(last(*history, validity(0, 4, 1)), [2])
            self.assertEqual(last(*history, validity(0, 4, 2)), [1])
            self.assertEqual(last(*history, validity(0, 1, 2)), [2])
            self.assertEqual(last(*history, validity(16, 2, 2)), [2])
            self.assertEqual(last(*history, validity(0, 3, 5)), [2])

    def test_origin_and_max_length_must_be_of_the_same_roa(self):
        history = [RESET, add_roa(0, 1, 2, 1), add_roa(0, 1, 6, 2), add_roa(32, 1, 6, 1)]
        self.assertEqual(last(*history, validity(0, 3, 1)), [2])
        self.assertEqual(last(*history, validity(0, 3, 2)), [1])

    def test_every_prefix_with_every_origin(self):
        roas = [(0, 1, 3, 1), (8, 3, 5, 2), (8, 5, 6, 1), (48, 2, 2, 0), (63, 6, 6, 7), (48, 3, 4, 7)]
        expected = []
        for address, length in ALL_PREFIXES:
            covering = [roa for roa in roas if addresses(*roa[:2]) >= addresses(address, length)]
            for origin in range(8):
                right = [roa for roa in covering if roa[3] == origin and roa[2] >= length]
                expected.append([1 if right else 2 if covering else 0])
        self.assertEqual(validities([RESET] + [add_roa(*roa) for roa in roas]), expected)

    def test_adding_a_roa_never_makes_a_valid_prefix_invalid(self):
        history = [RESET, add_roa(0, 1, 3, 1), add_roa(32, 3, 6, 2)]
        before = validities(history)
        for roa in ((0, 0, 0, 3), (0, 2, 2, 1), (0, 1, 6, 2), (32, 4, 4, 1), (40, 6, 6, 0)):
            after = validities(history + [add_roa(*roa)])
            for old, new in zip(before, after):
                if old == [1]:
                    self.assertEqual(new, [1])
            self.assertEqual(validities(history + [add_roa(*roa), remove_roa(2)]), before)

    def test_announcements_and_strict_mode_have_no_part_in_it(self):
        history = [RESET, add_roa(0, 1, 3, 1)]
        more = [announce(0, 2, 1, 1), announce(0, 2, 2, 2), announce(32, 1, 3, 3), set_strict(1)]
        self.assertEqual(validities(history + more), validities(history))

    def test_no_member(self):
        for origin in (8, BIGGEST):
            self.assertEqual(last(RESET, validity(0, 2, origin)), [-2])

    def test_no_prefix(self):
        for address, length in ((64, 6), (64, 0), (1, 5), (32, 0), (0, 7), (BIGGEST, 6), (0, BIGGEST)):
            self.assertEqual(last(RESET, validity(address, length, 0)), [-22])

    def test_which_error_is_checked_first(self):
        for address, length in ((1, 2), (64, 6), (0, 7), (BIGGEST, BIGGEST)):
            self.assertEqual(last(RESET, validity(address, length, 8)), [-2])


if __name__ == "__main__":
    unittest.main()
