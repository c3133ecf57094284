"""Refused calls, and the calls that only return information, leave the state unchanged."""

import unittest

from tests.calls import (
    ALL_ADDRESSES, ALL_PREFIXES, BIGGEST, DROPPED_ANNOUNCEMENTS, LIST_ANNOUNCEMENTS, LIST_ROAS,
    RESET, add_roa, address_count, announce, destination, full_announcements, full_roas, hijackers,
    last, preview_announce, preview_tighten, remove_roa, run, set_strict, state, tighten_roas,
    valid_prefix_count, validity, vulnerable_addresses, withdraw,
)

SMALL = [
    RESET, add_roa(0, 2, 3, 1), add_roa(0, 1, 1, 2), announce(0, 2, 1, 1), announce(0, 3, 4, 1),
    announce(0, 2, 2, 2), announce(32, 1, 5, 5),
]
STRICT = SMALL + [set_strict(1)]
# All ROAs and announcements that fit; tightening for the member 1 does not.
FULL = (
    [RESET] + full_roas(11) + [add_roa(32, 1, 6, 1)]
    + full_announcements(12) + [announce(32 + place, 6, 1, 1) for place in range(4)]
)

REFUSED = [
    (add_roa(0, 2, 3, 8), -2), (add_roa(BIGGEST, 2, 3, 1), -22), (add_roa(0, 3, 2, 1), -22),
    (add_roa(0, 2, 3, BIGGEST), -2), (add_roa(0, BIGGEST, BIGGEST, 1), -22),
    (remove_roa(12), -2), (remove_roa(BIGGEST), -2),
    (announce(0, 2, 8, 0), -2), (announce(0, 2, 0, 8), -2), (announce(1, 2, 0, 0), -22),
    (announce(0, BIGGEST, 0, 0), -22), (announce(BIGGEST, BIGGEST, BIGGEST, BIGGEST), -2),
    (withdraw(0, 2, 8, 1), -2), (withdraw(0, 2, 1, 8), -2), (withdraw(1, 2, 1, 1), -6),
    (withdraw(0, 2, 7, 7), -6), (withdraw(BIGGEST, BIGGEST, 0, 0), -6),
    (set_strict(2), -22), (set_strict(BIGGEST), -22),
    (tighten_roas(8), -2), (tighten_roas(BIGGEST), -2),
    (validity(0, 2, 8), -2), (validity(1, 2, 0), -22), (validity(BIGGEST, BIGGEST, 0), -22),
    (destination(64), -22), (destination(BIGGEST), -22),
    (address_count(8), -2), (hijackers(64), -22), (vulnerable_addresses(8), -2),
    (preview_tighten(8), -2), (preview_announce(0, 2, 8, 0), -2),
    (preview_announce(0, 2, 0, BIGGEST), -2), (preview_announce(1, 2, 0, 0), -22),
    (preview_announce(0, BIGGEST, 0, 0), -22), (valid_prefix_count(8), -2),
]
ALREADY_THERE = [(add_roa(0, 2, 3, 1), -17), (announce(0, 3, 4, 1), -17)]
NO_ROOM = [(add_roa(0, 0, 6, 7), -28), (announce(0, 0, 7, 7), -28), (tighten_roas(1), -28)]


class Unchanged(unittest.TestCase):

    def check(self, history, refused):
        before = state(history)
        for call, code in refused:
            with self.subTest(call=call):
                self.assertEqual(last(*history, call), [code])
                self.assertEqual(state(history + [call]), before)

    def test_refused_calls(self):
        self.check(SMALL, REFUSED + ALREADY_THERE)

    def test_refused_calls_in_strict_mode(self):
        self.check(STRICT, REFUSED + ALREADY_THERE)

    def test_calls_beyond_the_limits(self):
        self.check(FULL, NO_ROOM)

    def test_no_destination(self):
        self.check([RESET], [(destination(0), -33), (destination(63), -33)])

    def test_each_call_that_only_returns_information(self):
        members = range(8)
        kinds = {
            "validity": [validity(0, length, origin) for length in range(7) for origin in members],
            "destination": [destination(address) for address in ALL_ADDRESSES],
            "address_count": [address_count(member) for member in members],
            "hijackers": [hijackers(address) for address in ALL_ADDRESSES],
            "vulnerable_addresses": [vulnerable_addresses(member) for member in members],
            "preview_tighten": [preview_tighten(member) for member in members],
            "preview_announce": [preview_announce(*one, 4, 1) for one in ALL_PREFIXES[::2]],
            "valid_prefix_count": [valid_prefix_count(member) for member in members],
            "lists": [DROPPED_ANNOUNCEMENTS, LIST_ROAS, LIST_ANNOUNCEMENTS] * 2,
        }
        for history in (SMALL, STRICT):
            before = state(history)
            for kind, asking in kinds.items():
                with self.subTest(kind=kind):
                    self.assertEqual(state(history + asking), before)

    def test_previews_beyond_the_limits(self):
        before = state(FULL)
        asking = [preview_tighten(1), preview_announce(0, 0, 7, 7), preview_announce(32, 1, 1, 1)]
        self.assertEqual([answer[0] for answer in run(*FULL, *asking)[-3:]], [0, 48, 28])
        self.assertEqual(state(FULL + asking), before)

    def test_previews_tell_of_a_change_that_they_do_not_make(self):
        self.assertEqual(run(*SMALL, preview_tighten(1), preview_tighten(1))[-2:], [[0, 8]] * 2)
        one = preview_announce(0, 3, 1, 1)
        self.assertEqual(run(*SMALL, one, one)[-2:], [[8] + list(range(8))] * 2)
        self.assertEqual(last(*SMALL, preview_tighten(1), tighten_roas(1))[1], 8)
        self.assertEqual(last(*SMALL, one, announce(0, 3, 1, 1)), [1, 8])


if __name__ == "__main__":
    unittest.main()
