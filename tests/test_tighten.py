"""tighten_roas."""

import unittest

from tests.calls import (
    ALL_ADDRESSES, ALL_PREFIXES, BIGGEST, RESET, add_roa, announce, announcers, destination,
    destinations, full_announcements, full_roas, last, moved, run, set_strict,
    stored_announcements, stored_roas, tighten_roas, validity, withdraw,
)

# Two ROAs of the member 1 between those of others, and announcements in no
# order of their addresses or lengths, not all of them own or valid.
BUSY = [
    RESET,
    add_roa(0, 1, 4, 1), add_roa(32, 2, 3, 2), add_roa(48, 2, 6, 1), add_roa(0, 2, 6, 3),
    announce(48, 4, 1, 1), announce(16, 3, 1, 1), announce(16, 4, 2, 1), announce(0, 5, 1, 1),
    announce(32, 3, 2, 2), announce(0, 1, 1, 1), announce(0, 3, 1, 3), announce(32, 2, 1, 1),
    announce(56, 3, 1, 1),
]


class TightenRoas(unittest.TestCase):

    def test_the_order_of_the_roas(self):
        self.assertEqual(stored_roas(BUSY + [tighten_roas(1)]), [
            (32, 2, 3, 2), (0, 2, 6, 3),
            (48, 4, 4, 1), (16, 3, 3, 1), (0, 1, 1, 1), (56, 3, 3, 1),
        ])

    def test_the_counts(self):
        # The addresses 16 to 19 move from 2 to 1.
        self.assertEqual(last(*BUSY, tighten_roas(1)), [6, 4])
        # The announcement of 1 for 32 to 47 was invalid, and becomes not found.
        self.assertEqual(last(*BUSY, tighten_roas(2)), [4, 8])
        self.assertEqual(last(*BUSY, tighten_roas(3)), [3, 0])
        for member in range(8):
            change = tighten_roas(member)
            self.assertEqual(last(*BUSY, change)[1], moved(BUSY, change))

    def test_a_second_time_changes_the_order_alone(self):
        once = BUSY + [tighten_roas(1)]
        twice = once + [tighten_roas(1)]
        self.assertEqual(last(*twice), [6, 0])
        self.assertEqual(stored_roas(twice), stored_roas(once))
        then = once + [tighten_roas(2), tighten_roas(1)]
        self.assertEqual(stored_roas(then)[:2], [(0, 2, 6, 3), (32, 3, 3, 2)])

    def test_what_exploits_a_loose_roa_is_dropped(self):
        history = [RESET, add_roa(0, 2, 3, 1), announce(0, 2, 1, 1), announce(0, 3, 4, 1)]
        self.assertEqual(announcers(history)[:16], [4] * 8 + [1] * 8)
        self.assertEqual(last(*history, tighten_roas(1)), [1, 8])
        self.assertEqual(announcers(history + [tighten_roas(1)])[:16], [1] * 16)
        self.assertEqual(last(*history, tighten_roas(1), validity(0, 3, 1)), [2])

    def test_a_member_that_announces_nothing(self):
        history = [
            RESET, add_roa(0, 2, 3, 1), add_roa(0, 1, 6, 2), add_roa(16, 2, 2, 1), announce(0, 2, 2, 2),
            announce(0, 3, 2, 1),
        ]
        self.assertEqual(last(*history, tighten_roas(1)), [1, 0])
        self.assertEqual(stored_roas(history + [tighten_roas(1)]), [(0, 1, 6, 2)])
        self.assertEqual(last(*history, tighten_roas(5)), [3, 0])
        self.assertEqual(stored_roas(history + [tighten_roas(5)]), stored_roas(history))
        self.assertEqual(last(RESET, tighten_roas(1)), [0, 0])

    def test_addresses_move_when_no_roa_is_left(self):
        history = [RESET, add_roa(0, 2, 2, 1), announce(0, 3, 2, 2)]
        self.assertEqual(last(*history, tighten_roas(1)), [0, 8])
        strict = [RESET, add_roa(0, 2, 3, 1), announce(0, 3, 2, 1), set_strict(1)]
        self.assertEqual(last(*strict, tighten_roas(1)), [0, 8])

    def test_what_was_not_valid_gets_no_roa(self):
        history = [RESET, announce(0, 2, 1, 1)]
        self.assertEqual(last(*history, tighten_roas(1)), [0, 0])
        history = [RESET, add_roa(0, 0, 1, 1), announce(0, 2, 1, 1)]
        self.assertEqual(last(*history, tighten_roas(1)), [0, 16])
        self.assertEqual(stored_roas(history + [tighten_roas(1)]), [])

    def test_what_was_valid_before_counts(self):
        # The own announcement is valid by a ROA that is removed.
        history = [RESET, add_roa(0, 0, 6, 1), announce(8, 5, 1, 1)]
        self.assertEqual(stored_roas(history + [tighten_roas(1)]), [(8, 5, 5, 1)])

    def test_an_announcement_with_a_false_origin_is_not_own(self):
        history = [RESET, add_roa(0, 0, 6, 1), add_roa(0, 0, 6, 2), announce(0, 2, 2, 1), announce(0, 2, 1, 2)]
        self.assertEqual(stored_roas(history + [tighten_roas(1)]), [(0, 0, 6, 2)])
        self.assertEqual(stored_roas(history + [tighten_roas(2)]), [(0, 0, 6, 1)])

    def test_valid_announcements_are_taken_in_strict_mode_too(self):
        history = BUSY + [set_strict(1)]
        self.assertEqual(stored_roas(history + [tighten_roas(1)]), stored_roas(BUSY + [tighten_roas(1)]))

    def test_the_announcements_stay(self):
        self.assertEqual(stored_announcements(BUSY + [tighten_roas(1)]), stored_announcements(BUSY))

    def test_first_and_last_member(self):
        for member in (0, 7):
            history = [RESET, add_roa(0, 0, 6, member), announce(63, 6, member, member)]
            self.assertEqual(stored_roas(history + [tighten_roas(member)]), [(63, 6, 6, member)])

    def test_no_member(self):
        for member in (8, BIGGEST):
            self.assertEqual(last(RESET, tighten_roas(member)), [-2])
            self.assertEqual(last(RESET, *full_roas(12), tighten_roas(member)), [-2])

    def test_twelve_roas_and_thirteen(self):
        history = [RESET, add_roa(0, 0, 6, 0)] + full_announcements(12)
        self.assertEqual(last(*history, tighten_roas(0)), [12, 0])
        history.append(announce(32, 6, 0, 0))
        self.assertEqual(last(*history, tighten_roas(0)), [-28])

    def test_roas_of_others_count_for_the_limit(self):
        others = [add_roa(63 - place, 6, 6, 5) for place in range(9)]
        history = [RESET, *others, add_roa(0, 1, 6, 0)] + full_announcements(3)
        self.assertEqual(last(*history, tighten_roas(0)), [12, 0])
        history.append(announce(20, 6, 0, 0))
        self.assertEqual(last(*history, tighten_roas(0)), [-28])
        self.assertEqual(len(stored_roas(history + [tighten_roas(0)])), 10)

    def test_the_roas_that_are_removed_make_room(self):
        history = [RESET] + full_roas(12) + full_announcements(12)
        self.assertEqual(last(*history, tighten_roas(0)), [12, 0])
        self.assertEqual(last(*history, announce(0, 6, 0, 1), tighten_roas(0)), [12, 0])

    def test_more_than_twelve_that_are_not_valid_fit(self):
        history = [RESET, add_roa(0, 3, 6, 0)] + full_announcements(16)
        self.assertEqual(last(*history, tighten_roas(0)), [8, 0])


class TightRoasPreventHijacks(unittest.TestCase):

    def test_own_announcements_that_were_valid_still_are(self):
        after = BUSY + [tighten_roas(1)]
        for call in BUSY:
            if call[0] == 3 and call[3] == call[4] == 1:
                prefix = (call[1], call[2], 1)
                with self.subTest(prefix=prefix):
                    if last(*BUSY, validity(*prefix)) == [1]:
                        self.assertEqual(last(*after, validity(*prefix)), [1])

    def test_no_other_attracts_an_address_in_the_name_of_the_member(self):
        after = BUSY + [tighten_roas(1)]
        tight = {call[1:3] for call in BUSY if call[0] == 3 and call[3] == call[4] == 1}
        found = destinations(after)
        safe = [
            address for address in ALL_ADDRESSES
            if found[address][:2] == [1, 1] and tuple(found[address][2:]) in tight
        ]
        self.assertGreater(len(safe), 8)
        for address, length in ALL_PREFIXES:
            for other in (0, 2, 7):
                then = announcers(after + [announce(address, length, other, 1)])
                self.assertEqual([then[one] for one in safe], [1] * len(safe))

    def test_no_other_attracts_an_address_that_no_roa_of_another_covers(self):
        history = BUSY + [tighten_roas(1)]
        for address in (16, 31, 48, 63):
            self.assertEqual(last(*history, destination(address))[:2], [1, 1])
            prefixes = [(address >> 6 - length << 6 - length, length) for length in range(7)]
            tries = [
                (*prefix, other, origin) for prefix in prefixes
                for other in (0, 2, 3, 4, 5, 6, 7) for origin in range(8)
                if (*prefix, other, origin) != (16, 4, 2, 1)
            ]
            for start in range(0, len(tries), 100):
                calls = []
                for one in tries[start:start + 100]:
                    calls += [announce(*one), destination(address), withdraw(*one)]
                found = run(*history, *calls)[len(history):]
                self.assertEqual([answer[0] for answer in found[1::3]], [1] * (len(calls) // 3))


if __name__ == "__main__":
    unittest.main()
