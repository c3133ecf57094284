"""dropped_announcements, list_roas and list_announcements."""

import unittest

from tests.calls import (
    BIGGEST, DROPPED_ANNOUNCEMENTS, LIST_ANNOUNCEMENTS, LIST_ROAS, RESET, add_roa, announce,
    full_announcements, full_roas, last, quads, remove_roa, run, set_strict, some_calls,
    stored_announcements, stored_roas, tighten_roas, validity, withdraw,
)

# In no order of their fields, so that only the order of their coming can be answered.
ROAS = [(32, 1, 1, 7), (0, 2, 3, 1), (63, 6, 6, 0), (0, 0, 0, 4), (0, 2, 2, 1)]
ANNOUNCED = [(48, 2, 7, 0), (0, 3, 4, 1), (0, 2, 1, 1), (63, 6, 0, 7), (0, 0, 4, 4), (0, 3, 0, 1)]
WITH_ROAS = [RESET] + [add_roa(*one) for one in ROAS]
WITH_BOTH = WITH_ROAS + [announce(*one) for one in ANNOUNCED]


def flat(rows):
    return [number for row in rows for number in row]


class ListRoas(unittest.TestCase):

    def test_no_roas(self):
        self.assertEqual(last(RESET, LIST_ROAS), [0])
        self.assertEqual(last(*WITH_BOTH, RESET, LIST_ROAS), [0])
        self.assertEqual(last(RESET, add_roa(0, 2, 3, 1), remove_roa(0), LIST_ROAS), [0])

    def test_the_order_is_that_of_the_indices(self):
        self.assertEqual(last(*WITH_ROAS, LIST_ROAS), [5] + flat(ROAS))
        self.assertEqual(last(*WITH_ROAS, remove_roa(1), LIST_ROAS), [4] + flat(ROAS[:1] + ROAS[2:]))
        self.assertEqual(
            last(*WITH_ROAS, remove_roa(0), add_roa(*ROAS[0]), LIST_ROAS), [5] + flat(ROAS[1:] + ROAS[:1]))

    def test_tightened_roas_come_last(self):
        found = last(*WITH_BOTH, tighten_roas(1), LIST_ROAS)
        self.assertEqual(found, [4] + flat([ROAS[0], ROAS[2], ROAS[3], (0, 2, 2, 1)]))

    def test_twelve_roas(self):
        found = last(RESET, *full_roas(13), LIST_ROAS)
        self.assertEqual(found, [12] + flat((address, 6, 6, 0) for address in range(12)))

    def test_a_refused_roa_is_not_listed(self):
        refused = [add_roa(*ROAS[0]), add_roa(1, 2, 3, 1), add_roa(0, 2, 3, 8), remove_roa(BIGGEST)]
        self.assertEqual(last(*WITH_ROAS, *refused, LIST_ROAS), [5] + flat(ROAS))

    def test_it_is_what_the_other_calls_tell(self):
        for seed in range(3):
            history = some_calls(seed)[:60]
            found = last(*history, LIST_ROAS)
            self.assertEqual(quads(found[1:]), stored_roas(history))
            self.assertEqual(found[0], len(stored_roas(history)))


class ListAnnouncements(unittest.TestCase):

    def test_no_announcements(self):
        self.assertEqual(last(RESET, LIST_ANNOUNCEMENTS), [0, 0])
        self.assertEqual(last(RESET, set_strict(1), LIST_ANNOUNCEMENTS), [0, 1])
        self.assertEqual(last(*WITH_BOTH, set_strict(1), RESET, LIST_ANNOUNCEMENTS), [0, 0])

    def test_the_order_in_which_they_were_made(self):
        self.assertEqual(last(*WITH_BOTH, LIST_ANNOUNCEMENTS), [6, 0] + flat(ANNOUNCED))
        found = last(*WITH_BOTH, withdraw(*ANNOUNCED[2]), LIST_ANNOUNCEMENTS)
        self.assertEqual(found, [5, 0] + flat(ANNOUNCED[:2] + ANNOUNCED[3:]))
        again = last(*WITH_BOTH, withdraw(*ANNOUNCED[2]), announce(*ANNOUNCED[2]), LIST_ANNOUNCEMENTS)
        self.assertEqual(again, [6, 0] + flat(ANNOUNCED[:2] + ANNOUNCED[3:] + ANNOUNCED[2:3]))

    def test_strict_mode(self):
        found = run(
            *WITH_BOTH, set_strict(1), LIST_ANNOUNCEMENTS, set_strict(2), LIST_ANNOUNCEMENTS,
            set_strict(0), LIST_ANNOUNCEMENTS)
        self.assertEqual(found[-5], [6, 1] + flat(ANNOUNCED))
        self.assertEqual(found[-3], [6, 1] + flat(ANNOUNCED))
        self.assertEqual(found[-1], [6, 0] + flat(ANNOUNCED))

    def test_dropped_ones_are_listed(self):
        history = [RESET, add_roa(0, 0, 0, 1), announce(0, 2, 2, 2), announce(0, 0, 1, 1)]
        self.assertEqual(last(*history, LIST_ANNOUNCEMENTS), [2, 0, 0, 2, 2, 2, 0, 0, 1, 1])

    def test_sixteen_announcements(self):
        found = last(RESET, *full_announcements(17, 3), LIST_ANNOUNCEMENTS)
        self.assertEqual(found, [16, 0] + flat((address, 6, 3, 3) for address in range(16)))

    def test_a_refused_announcement_is_not_listed(self):
        refused = [
            announce(*ANNOUNCED[0]), announce(1, 2, 1, 1), announce(0, 2, 8, 1), announce(0, 2, 1, 8),
            withdraw(0, 2, 5, 5),
        ]
        self.assertEqual(last(*WITH_BOTH, *refused, LIST_ANNOUNCEMENTS), [6, 0] + flat(ANNOUNCED))

    def test_it_is_what_the_other_calls_tell(self):
        for seed in range(6):
            history = some_calls(seed)[:120]
            found = last(*history, LIST_ANNOUNCEMENTS)
            self.assertEqual(sorted(quads(found[2:])), sorted(stored_announcements(history)))
            self.assertEqual(found[0], len(stored_announcements(history)))
            self.assertEqual(found[1], last(*history, set_strict(0))[0])


class DroppedAnnouncements(unittest.TestCase):

    def test_nothing_is_dropped(self):
        self.assertEqual(last(RESET, DROPPED_ANNOUNCEMENTS), [0])
        self.assertEqual(last(RESET, set_strict(1), DROPPED_ANNOUNCEMENTS), [0])
        self.assertEqual(last(*[RESET] + full_announcements(16), DROPPED_ANNOUNCEMENTS), [0])
        valid = [RESET, add_roa(0, 0, 6, 0)] + full_announcements(16) + [set_strict(1)]
        self.assertEqual(last(*valid, DROPPED_ANNOUNCEMENTS), [0])

    def test_the_order_of_the_list_of_announcements(self):
        # The ROA of length 0 covers every prefix, so that none is not found.
        dropped = [(48, 2, 7, 0), (63, 6, 0, 7)]
        self.assertEqual(last(*WITH_BOTH, DROPPED_ANNOUNCEMENTS), [2] + flat(dropped))
        found = last(*WITH_BOTH, withdraw(*dropped[0]), announce(*dropped[0]), DROPPED_ANNOUNCEMENTS)
        self.assertEqual(found, [2] + flat(dropped[::-1]))

    def test_invalid_and_not_found(self):
        history = [
            RESET, add_roa(0, 2, 3, 1), announce(32, 1, 3, 3), announce(0, 4, 1, 1),
            announce(0, 3, 1, 1), announce(0, 2, 2, 2), announce(0, 1, 1, 1), announce(8, 3, 5, 1),
        ]
        invalid = [(0, 4, 1, 1), (0, 2, 2, 2)]
        self.assertEqual(last(*history, DROPPED_ANNOUNCEMENTS), [2] + flat(invalid))
        strict = [(32, 1, 3, 3), (0, 4, 1, 1), (0, 2, 2, 2), (0, 1, 1, 1)]
        self.assertEqual(last(*history, set_strict(1), DROPPED_ANNOUNCEMENTS), [4] + flat(strict))

    def test_one_that_is_not_selected_is_not_dropped(self):
        history = [RESET, announce(0, 2, 1, 1), announce(0, 2, 2, 2), announce(0, 2, 3, 1)]
        self.assertEqual(last(*history, DROPPED_ANNOUNCEMENTS), [0])

    def test_all_of_sixteen(self):
        rows = flat((address, 6, 2, 2) for address in range(16))
        strict = [RESET, set_strict(1)] + full_announcements(16, 2)
        self.assertEqual(last(*strict, DROPPED_ANNOUNCEMENTS), [16] + rows)
        invalid = [RESET] + full_announcements(16, 2) + [add_roa(0, 0, 5, 2)]
        self.assertEqual(last(*invalid, DROPPED_ANNOUNCEMENTS), [16] + rows)
        self.assertEqual(last(*invalid, remove_roa(0), DROPPED_ANNOUNCEMENTS), [0])

    def test_it_is_what_validity_tells(self):
        for seed in range(10):
            history = some_calls(seed)[:150]
            listed = last(*history, LIST_ANNOUNCEMENTS)
            expected = []
            for one in quads(listed[2:]):
                code = last(*history, validity(one[0], one[1], one[3]))
                if code == [2] or (code == [0] and listed[1] == 1):
                    expected.append(one)
            self.assertEqual(last(*history, DROPPED_ANNOUNCEMENTS), [len(expected)] + flat(expected))


if __name__ == "__main__":
    unittest.main()
