"""destination: the best selection."""

import unittest

from tests.calls import (
    ALL_ADDRESSES, BIGGEST, RESET, add_roa, announce, ask, destination, destinations, last, run,
    set_strict,
)

MEMBER_PAIRS = [(announcer, origin) for announcer in range(8) for origin in range(8)]


def rank(pair):
    """The lower rank is preferred, of announcements of one prefix."""
    announcer, origin = pair
    return (announcer != origin, announcer, origin)


def better(one, other):
    return min(one, other, key=rank)


class Destination(unittest.TestCase):

    def test_what_is_answered(self):
        history = [RESET, announce(16, 2, 3, 5)]
        self.assertEqual(last(*history, destination(20)), [3, 5, 16, 2])

    def test_the_prefix_begins_and_ends_where_it_should(self):
        history = [RESET, announce(16, 2, 3, 3)]
        self.assertEqual(
            destinations(history), [[-33]] * 16 + [[3, 3, 16, 2]] * 16 + [[-33]] * 32)

    def test_first_and_last_address(self):
        history = [RESET, announce(0, 6, 0, 7), announce(63, 6, 7, 0)]
        self.assertEqual(last(*history, destination(0)), [0, 7, 0, 6])
        self.assertEqual(last(*history, destination(63)), [7, 0, 63, 6])
        self.assertEqual(last(*history, destination(1)), [-33])
        self.assertEqual(last(*history, destination(62)), [-33])

    def test_no_address(self):
        for address in (64, 65, BIGGEST):
            self.assertEqual(last(RESET, announce(0, 0, 1, 1), destination(address)), [-22])

    def test_no_destination(self):
        self.assertEqual(last(RESET, destination(0)), [-33])
        self.assertEqual(last(RESET, destination(63)), [-33])

    def test_which_error_is_checked_first(self):
        self.assertEqual(last(RESET, destination(64)), [-22])
        self.assertEqual(last(RESET, destination(BIGGEST)), [-22])

    def test_dropped_announcements_are_not_selected(self):
        history = [RESET, add_roa(0, 2, 3, 1), announce(0, 4, 1, 1), announce(0, 3, 2, 2)]
        self.assertEqual(last(*history, destination(0)), [-33])
        self.assertEqual(last(*history, announce(0, 2, 5, 1), destination(0)), [5, 1, 0, 2])
        self.assertEqual(last(*history, announce(0, 1, 5, 5), destination(0)), [5, 5, 0, 1])


class BestSelection(unittest.TestCase):

    def test_the_longer_prefix_is_preferred(self):
        chain = [announce(0, length, 7 - length, 7 - length) for length in range(7)]
        for calls in (chain, chain[::-1]):
            found = destinations([RESET] + calls)
            for address in ALL_ADDRESSES:
                length = 6 - address.bit_length()
                self.assertEqual(found[address], [7 - length, 7 - length, 0, length])

    def test_the_length_is_asked_ahead_of_own_announcer_and_origin(self):
        history = [RESET, announce(0, 2, 0, 0), announce(0, 3, 7, 6)]
        self.assertEqual(last(*history, destination(0)), [7, 6, 0, 3])
        self.assertEqual(last(*history, destination(8)), [0, 0, 0, 2])

    def test_own_is_asked_ahead_of_announcer_and_origin(self):
        for calls in (
                [announce(0, 2, 7, 7), announce(0, 2, 0, 1)],
                [announce(0, 2, 0, 1), announce(0, 2, 7, 7)]):
            self.assertEqual(last(RESET, *calls, destination(0)), [7, 7, 0, 2])

    def test_the_announcer_is_asked_ahead_of_the_origin(self):
        for calls in (
                [announce(0, 2, 2, 7), announce(0, 2, 3, 0)],
                [announce(0, 2, 3, 0), announce(0, 2, 2, 7)]):
            self.assertEqual(last(RESET, *calls, destination(0)), [2, 7, 0, 2])

    def test_the_lower_origin_comes_last(self):
        for calls in (
                [announce(0, 2, 4, 1), announce(0, 2, 4, 3)],
                [announce(0, 2, 4, 3), announce(0, 2, 4, 1)]):
            self.assertEqual(last(RESET, *calls, destination(0)), [4, 1, 0, 2])

    def test_every_two_announcements_of_one_prefix(self):
        couples = [(one, other) for one in MEMBER_PAIRS for other in MEMBER_PAIRS if one != other]
        for start in range(0, len(couples), 100):
            calls = []
            expected = []
            for one, other in couples[start:start + 100]:
                calls += [RESET, announce(8, 3, *one), announce(8, 3, *other), destination(15)]
                expected.append([*better(one, other), 8, 3])
            self.assertEqual(run(*calls)[3::4], expected)

    def test_an_accepted_one_is_selected_though_a_dropped_one_would_be_preferred(self):
        history = [
            RESET, add_roa(0, 2, 4, 5), announce(0, 6, 0, 0), announce(0, 5, 5, 5),
            announce(0, 4, 6, 5), announce(0, 3, 5, 5), announce(0, 0, 1, 1),
        ]
        found = destinations(history)
        self.assertEqual(found[0], [6, 5, 0, 4])
        self.assertEqual(found[4], [5, 5, 0, 3])
        self.assertEqual(found[8], [1, 1, 0, 0])
        strict = destinations(history + [set_strict(1)])
        self.assertEqual(strict[4], [5, 5, 0, 3])
        self.assertEqual(strict[8], [-33])

    def test_a_roa_within_a_roa_of_another_origin(self):
        history = [
            RESET, add_roa(0, 1, 2, 1), add_roa(0, 2, 4, 2),
            announce(0, 1, 1, 1), announce(0, 2, 1, 1), announce(0, 2, 2, 2), announce(0, 3, 1, 1),
            announce(8, 3, 3, 2),
        ]
        found = ask(history, [destination(0), destination(8), destination(16)])
        self.assertEqual(found, [[1, 1, 0, 2], [3, 2, 8, 3], [1, 1, 0, 1]])


if __name__ == "__main__":
    unittest.main()
