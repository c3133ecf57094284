"""preview_tighten and preview_announce."""

import unittest

from tests.calls import (
    ALL_ADDRESSES, BIGGEST, LIST_ANNOUNCEMENTS, LIST_ROAS, RESET, add_roa, announce, announcers, ask,
    counted, full_announcements, full_roas, last, preview_announce, preview_tighten, quads, run,
    set_strict, some_calls, tighten_roas, vulnerable_addresses, withdraw,
)

# Thirteen own announcements that are valid, one that exploits the ROA, and a ROA of another
# origin within it: tightening would leave fourteen ROAs.
CROWDED = (
    [RESET, add_roa(0, 0, 6, 1), add_roa(4, 5, 6, 3)]
    + [announce(2 * place, 5, 1, 1) for place in range(13)] + [announce(0, 6, 2, 1)]
)


class PreviewTighten(unittest.TestCase):

    def test_what_is_answered(self):
        history = [RESET, add_roa(0, 2, 3, 1), announce(0, 2, 1, 1), announce(0, 3, 4, 1)]
        self.assertEqual(last(*history, preview_tighten(1)), [0, 8])
        self.assertEqual(last(*history, preview_tighten(4)), [8, 0])
        self.assertEqual(last(*history, preview_tighten(2)), [0, 0])

    def test_addresses_that_stay_vulnerable(self):
        history = [RESET, add_roa(0, 1, 6, 1), add_roa(8, 3, 4, 2), announce(0, 1, 1, 1)]
        self.assertEqual(last(*history, vulnerable_addresses(1))[0], 32)
        self.assertEqual(last(*history, preview_tighten(1)), [8, 0])
        # Not found, and so without a ROA that would be tightened.
        self.assertEqual(last(RESET, announce(0, 1, 1, 1), preview_tighten(1)), [32, 0])

    def test_a_member_that_announces_nothing(self):
        history = [RESET, add_roa(0, 1, 2, 1), add_roa(32, 1, 6, 2), announce(0, 3, 2, 2)]
        self.assertEqual(last(*history, preview_tighten(1)), [0, 8])
        self.assertEqual(last(*history, preview_tighten(7)), [0, 0])
        self.assertEqual(last(RESET, preview_tighten(0)), [0, 0])

    def test_addresses_that_the_member_would_lose_or_gain(self):
        # The announcement of 2 in the name of 1 is dropped, and 1 has what lies under it.
        gain = [RESET, add_roa(0, 2, 4, 1), announce(0, 3, 1, 1), announce(4, 4, 2, 1)]
        self.assertEqual(last(*gain, preview_tighten(1)), [0, 4])
        # Its own announcement with a false origin is dropped for want of the other's ROA.
        lose = [RESET, add_roa(0, 2, 2, 2), add_roa(0, 1, 1, 3), announce(0, 2, 1, 2)]
        self.assertEqual(last(*lose, preview_tighten(2)), [0, 16])
        self.assertEqual(last(*lose, preview_tighten(1)), [16, 0])

    def test_strict_mode(self):
        history = [RESET, add_roa(0, 2, 3, 1), announce(0, 3, 5, 1), announce(0, 1, 1, 1), set_strict(1)]
        self.assertEqual(last(*history, preview_tighten(1)), [0, 8])
        # The announcement of 5 is accepted all the same then, as no ROA is left.
        self.assertEqual(last(*history, set_strict(0), preview_tighten(1)), [24, 0])

    def test_prefixes_of_length_0_and_6(self):
        for member in (0, 7):
            history = [RESET, add_roa(0, 0, 6, member), announce(0, 0, member, member)]
            self.assertEqual(last(*history, vulnerable_addresses(member))[0], 64)
            self.assertEqual(last(*history, preview_tighten(member)), [0, 0])
            history += [announce(0, 6, 3, member), announce(63, 6, 3, member)]
            self.assertEqual(last(*history, preview_tighten(member)), [0, 2])

    def test_more_than_twelve_roas(self):
        self.assertEqual(last(*CROWDED, tighten_roas(1)), [-28])
        self.assertEqual(last(*CROWDED, preview_tighten(1)), [2, 1])
        full = [RESET, add_roa(0, 0, 6, 0)] + full_announcements(16)
        self.assertEqual(last(*full, preview_tighten(0)), [0, 0])
        others = [RESET] + full_roas(11, 5) + [add_roa(32, 1, 6, 0)]
        others += [announce(32 + 2 * place, 5, 0, 0) for place in range(15)] + [announce(33, 6, 1, 0)]
        self.assertEqual(last(*others, tighten_roas(0)), [-28])
        self.assertEqual(last(*others, preview_tighten(0)), [0, 1])

    def test_the_state_does_not_change(self):
        for history in (CROWDED, CROWDED[:6]):
            asked = [LIST_ROAS, LIST_ANNOUNCEMENTS, vulnerable_addresses(1), preview_tighten(1)]
            found = run(*history, *asked, *asked)[len(history):]
            self.assertEqual(found[:4], found[4:])
            self.assertEqual(
                announcers(history + [preview_tighten(1), preview_tighten(3)]), announcers(history))

    def test_it_is_what_tightening_does(self):
        compared = 0
        for seed in range(12):
            history = some_calls(seed)[:140]
            for member in range(8):
                found = run(
                    *history, preview_tighten(member), tighten_roas(member), vulnerable_addresses(member))
                preview, done, vulnerable = found[-3:]
                if done != [-28]:
                    compared += 1
                    self.assertEqual(preview, [vulnerable[0], done[1]])
        self.assertGreater(compared, 80)

    def test_no_member(self):
        for member in (8, 9, BIGGEST):
            self.assertEqual(last(RESET, preview_tighten(member)), [-2])
            self.assertEqual(last(*CROWDED, preview_tighten(member)), [-2])


class PreviewAnnounce(unittest.TestCase):

    def test_what_is_answered(self):
        history = [RESET, add_roa(0, 2, 3, 1), announce(0, 2, 1, 1)]
        self.assertEqual(last(*history, preview_announce(8, 3, 4, 1)), [8, *range(8, 16)])
        self.assertEqual(last(*history, preview_announce(0, 1, 4, 4)), [16, *range(16, 32)])
        self.assertEqual(last(*history, preview_announce(0, 2, 4, 1)), [0])

    def test_one_that_would_be_dropped(self):
        history = [RESET, add_roa(0, 2, 3, 1)]
        self.assertEqual(last(*history, preview_announce(0, 4, 1, 1)), [0])
        self.assertEqual(last(*history, preview_announce(0, 2, 2, 2)), [0])
        self.assertEqual(last(*history, preview_announce(0, 2, 2, 1)), [16, *range(16)])
        self.assertEqual(last(*history, preview_announce(32, 2, 2, 2)), [16, *range(32, 48)])
        self.assertEqual(last(*history, set_strict(1), preview_announce(32, 2, 2, 2)), [0])
        self.assertEqual(last(*history, set_strict(1), preview_announce(0, 3, 2, 1)), [8, *range(8)])

    def test_prefixes_of_length_0_and_6(self):
        for member in (0, 7):
            self.assertEqual(last(RESET, preview_announce(0, 0, member, 7)), [64, *range(64)])
            self.assertEqual(last(RESET, preview_announce(0, 6, member, 0)), [1, 0])
            self.assertEqual(last(RESET, preview_announce(63, 6, member, 7)), [1, 63])
        history = [RESET, announce(0, 6, 1, 1), announce(63, 6, 1, 1)]
        self.assertEqual(last(*history, preview_announce(0, 0, 2, 2)), [62, *range(1, 63)])

    def test_only_addresses_with_another_announcer_move(self):
        history = [RESET, announce(0, 2, 1, 1), announce(4, 4, 2, 2)]
        self.assertEqual(last(*history, preview_announce(0, 3, 1, 1)), [0])
        self.assertEqual(last(*history, preview_announce(0, 3, 3, 3)), [4, 0, 1, 2, 3])
        self.assertEqual(last(*history, preview_announce(4, 5, 1, 1)), [2, 4, 5])
        self.assertEqual(
            last(*history, preview_announce(0, 2, 0, 0)), [12, 0, 1, 2, 3, *range(8, 16)])

    def test_two_announcers_of_the_same_prefix(self):
        history = [RESET, announce(0, 4, 3, 3)]
        self.assertEqual(last(*history, preview_announce(0, 4, 2, 2)), [4, 0, 1, 2, 3])
        self.assertEqual(last(*history, preview_announce(0, 4, 4, 4)), [0])
        self.assertEqual(last(*history, preview_announce(0, 4, 2, 3)), [0])

    def test_one_that_exists(self):
        history = [RESET, announce(0, 2, 1, 1), announce(0, 3, 2, 1), announce(0, 0, 0, 7)]
        for call in history[1:]:
            self.assertEqual(last(*history, preview_announce(*call[1:])), [0])
        full = [RESET] + full_announcements(16)
        self.assertEqual(last(*full, preview_announce(15, 6, 0, 0)), [0])
        dropped = [RESET, add_roa(0, 0, 0, 1), announce(0, 2, 2, 2)]
        self.assertEqual(last(*dropped, preview_announce(0, 2, 2, 2)), [0])

    def test_the_seventeenth(self):
        full = [RESET] + full_announcements(16)
        self.assertEqual(last(*full, announce(0, 1, 1, 1)), [-28])
        self.assertEqual(last(*full, preview_announce(0, 1, 1, 1)), [16, *range(16, 32)])
        self.assertEqual(last(*full, preview_announce(3, 6, 1, 1)), [0])
        self.assertEqual(last(*full[:16], announce(15, 6, 7, 7), preview_announce(15, 6, 1, 1)), [1, 15])

    def test_the_state_does_not_change(self):
        history = [RESET, announce(0, 2, 1, 1)]
        asked = [preview_announce(0, 3, 2, 2), LIST_ANNOUNCEMENTS, LIST_ROAS]
        found = run(*history, *asked, *asked)[len(history):]
        self.assertEqual(found[:3], found[3:])
        self.assertEqual(announcers(history + asked), announcers(history))
        self.assertEqual(last(*history, *asked, announce(0, 3, 2, 2)), [0, 8])
        self.assertEqual(last(*history, *asked, withdraw(0, 3, 2, 2)), [-6])

    def test_previews_do_not_fill_the_list(self):
        history = [RESET] + [preview_announce(address, 6, 0, 0) for address in range(20)]
        self.assertEqual(last(*history, LIST_ANNOUNCEMENTS), [0, 0])
        self.assertEqual(last(*history, announce(0, 0, 0, 0)), [0, 64])

    def test_it_is_what_announcing_does(self):
        for seed in range(10):
            history = some_calls(seed)[:140]
            there = quads(last(*history, LIST_ANNOUNCEMENTS)[2:])
            # Make room, where there are sixteen.
            if len(there) == 16:
                history.append(withdraw(*there[0]))
            before = announcers(history)
            for one in ((0, 0, 7, 7), (0, 2, 0, 0), (8, 4, 1, 0), (3, 6, 0, 1), (63, 6, 0, 0)):
                if one not in there:
                    after = announcers(history + [announce(*one)])
                    moved = [place for place in ALL_ADDRESSES if before[place] != after[place]]
                    found = run(*history, preview_announce(*one), announce(*one))
                    self.assertEqual(found[-2], [len(moved), *moved])
                    self.assertEqual(found[-1][1], len(moved))

    def test_no_member(self):
        for number in (8, 9, BIGGEST):
            for pair in ((number, 0), (0, number), (number, number)):
                self.assertEqual(last(RESET, preview_announce(0, 2, *pair)), [-2])

    def test_no_prefix(self):
        for address, length in ((64, 6), (64, 0), (1, 5), (32, 0), (0, 7), (BIGGEST, 6), (0, BIGGEST)):
            self.assertEqual(last(RESET, preview_announce(address, length, 0, 0)), [-22])

    def test_every_first_address(self):
        asked = [(address, length) for length in range(7) for address in range(66)]
        answered = ask([RESET], [preview_announce(*one, 0, 0) for one in asked])
        for (address, length), found in zip(asked, answered):
            size = 2 ** (6 - length)
            fair = address <= 63 and address % size == 0
            expected = list(range(address, address + size)) if fair else [-22]
            self.assertEqual(counted(found) if fair else found, expected)

    def test_which_error_is_checked_first(self):
        full = [RESET] + full_announcements(16)
        for history in ([RESET], full):
            self.assertEqual(last(*history, preview_announce(1, 2, 8, 0)), [-2])
            self.assertEqual(last(*history, preview_announce(0, 7, 0, 8)), [-2])
            self.assertEqual(last(*history, preview_announce(BIGGEST, BIGGEST, BIGGEST, BIGGEST)), [-2])
            self.assertEqual(last(*history, preview_announce(BIGGEST, BIGGEST, 7, 7)), [-22])


if __name__ == "__main__":
    unittest.main()
