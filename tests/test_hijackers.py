"""hijackers and vulnerable_addresses."""

import unittest

from tests.calls import (
    ALL_ADDRESSES, BIGGEST, LIST_ANNOUNCEMENTS, RESET, add_roa, announce, announcers, around, ask,
    counted, destination, full_announcements, hijackers, last, preview_announce, quads, run,
    set_strict, some_calls, tighten_roas, vulnerable_addresses, withdraw,
)

MEMBERS = list(range(8))


def others(member):
    return [other for other in MEMBERS if other != member]


def found_at(address, *history):
    """The members that can hijack the address after the history."""
    return counted(last(*history, hijackers(address)))


def vulnerable(member, *history):
    return counted(last(*history, vulnerable_addresses(member)))


def can_by_announcing(history, address):
    """The members that become the destination by one announcement that is made and withdrawn."""
    holder = announcers(history)[address]
    there = quads(last(*history, LIST_ANNOUNCEMENTS)[2:])
    tries = [
        (*prefix, member, origin) for prefix in around(address) for member in MEMBERS
        for origin in MEMBERS if member != holder and (*prefix, member, origin) not in there
    ]
    found = set()
    for start in range(0, len(tries), 100):
        part = tries[start:start + 100]
        calls = [call for one in part for call in (announce(*one), destination(address), withdraw(*one))]
        answered = run(*history, *calls)[len(history) + 1::3]
        found |= {one[2] for one, answer in zip(part, answered) if answer[:1] == [one[2]]}
    return sorted(found)


def can_by_previews(history, address):
    """The members one announcement of whom would move the address: it can move to them alone."""
    holder = announcers(history)[address]
    tries = [
        (*prefix, member, origin) for prefix in around(address) for member in others(holder)
        for origin in MEMBERS
    ]
    answered = ask(history, [preview_announce(*one) for one in tries])
    return sorted({one[2] for one, answer in zip(tries, answered) if address in counted(answer)})


class Hijackers(unittest.TestCase):

    def test_what_is_answered(self):
        history = [RESET, add_roa(0, 2, 3, 1), announce(0, 2, 1, 1), announce(0, 3, 4, 1)]
        # 1 by an own announcement of the same prefix, the others by being lower than 4.
        self.assertEqual(last(*history, hijackers(5)), [4, 0, 1, 2, 3])
        self.assertEqual(last(*history, hijackers(8)), [7, 0, 2, 3, 4, 5, 6, 7])
        self.assertEqual(last(*history, hijackers(16)), [8] + MEMBERS)
        self.assertEqual(last(*history, tighten_roas(1), hijackers(5)), [0])

    def test_a_longer_prefix_is_enough(self):
        for address in (0, 63):
            for length in range(6):
                start = address >> 6 - length << 6 - length
                self.assertEqual(found_at(address, RESET, announce(start, length, 0, 0)), others(0))
                self.assertEqual(found_at(address, RESET, announce(start, length, 7, 7)), others(7))

    def test_a_prefix_of_length_6_leaves_the_same_prefix_alone(self):
        for address in (0, 63):
            for member in MEMBERS:
                history = [RESET, announce(address, 6, member, member)]
                self.assertEqual(found_at(address, *history), MEMBERS[:member])

    def test_an_own_announcement_of_the_same_prefix(self):
        self.assertEqual(found_at(5, RESET, announce(5, 6, 0, 1)), others(0))
        self.assertEqual(found_at(5, RESET, announce(5, 6, 7, 1)), others(7))

    def test_the_origin_is_bound_by_a_roa(self):
        history = [RESET, add_roa(5, 6, 6, 4)]
        self.assertEqual(found_at(5, *history, announce(5, 6, 3, 4)), [0, 1, 2, 4])
        self.assertEqual(found_at(5, *history, announce(5, 6, 4, 4)), [])
        self.assertEqual(found_at(5, *history, announce(5, 6, 0, 4)), [4])

    def test_the_same_announcer_with_another_origin_makes_no_hijack(self):
        history = [RESET, add_roa(5, 6, 6, 4), add_roa(5, 6, 6, 2), announce(5, 6, 0, 4)]
        self.assertEqual(found_at(5, *history), [2, 4])

    def test_a_shorter_prefix_is_not_enough(self):
        # Only the lengths 0 to 2 are authorized, and 3 is announced.
        history = [RESET, add_roa(0, 3, 3, 7), add_roa(0, 0, 2, 1), announce(0, 3, 7, 7)]
        self.assertEqual(found_at(0, *history), [])

    def test_a_roa_that_allows_more_bits_than_are_announced(self):
        history = [RESET, add_roa(0, 2, 5, 1), announce(0, 2, 1, 1)]
        self.assertEqual(found_at(0, *history), others(1))
        # One member does it, so that the others need a prefix that is longer still.
        history.append(announce(0, 4, 6, 1))
        self.assertEqual(found_at(0, *history), others(6))
        history.append(announce(0, 5, 6, 1))
        self.assertEqual(found_at(0, *history), [0, 1, 2, 3, 4, 5])
        history.append(announce(0, 5, 1, 1))
        self.assertEqual(found_at(0, *history), [])

    def test_a_roa_within_a_roa_of_another_origin(self):
        history = [RESET, add_roa(0, 2, 2, 1), add_roa(0, 3, 3, 2), announce(0, 2, 1, 1)]
        self.assertEqual(found_at(7, *history), others(1))
        self.assertEqual(found_at(8, *history), [])

    def test_a_roa_of_the_same_prefix_and_another_origin(self):
        history = [RESET, add_roa(0, 2, 2, 5), add_roa(0, 2, 2, 3), announce(0, 2, 5, 5)]
        self.assertEqual(found_at(0, *history), [3])
        self.assertEqual(found_at(0, *history, announce(0, 2, 3, 3)), [])

    def test_two_announcers_of_the_same_prefix(self):
        history = [RESET, announce(0, 2, 2, 2), announce(0, 2, 5, 5)]
        self.assertEqual(found_at(0, *history), others(2))
        history += [add_roa(0, 2, 2, 2), add_roa(0, 2, 2, 5)]
        self.assertEqual(found_at(0, *history), [])
        self.assertEqual(found_at(0, *history, withdraw(0, 2, 2, 2)), [2])

    def test_an_announcement_that_is_dropped_helps_nobody(self):
        history = [RESET, add_roa(0, 2, 2, 1), announce(0, 2, 1, 1), announce(0, 4, 3, 3)]
        self.assertEqual(found_at(0, *history), [])
        # The dropped one is not what a hijack must be preferred to, either.
        self.assertEqual(found_at(0, RESET, add_roa(0, 2, 3, 1), *history[2:]), others(1))

    def test_no_destination(self):
        self.assertEqual(found_at(0, RESET), MEMBERS)
        self.assertEqual(found_at(63, RESET), MEMBERS)
        self.assertEqual(found_at(40, RESET, announce(0, 1, 1, 1)), MEMBERS)
        self.assertEqual(found_at(40, RESET, add_roa(32, 1, 1, 6)), MEMBERS)
        self.assertEqual(found_at(40, RESET, add_roa(32, 1, 1, 6), announce(40, 3, 6, 6)), MEMBERS)

    def test_no_roas(self):
        history = [RESET, announce(0, 1, 1, 1)]
        self.assertEqual(found_at(0, *history), others(1))
        for address in (0, 31, 32, 63):
            self.assertEqual(found_at(address, RESET, set_strict(1)), [])
            self.assertEqual(found_at(address, *history, set_strict(1)), [])
            self.assertEqual(found_at(address, RESET, set_strict(1), set_strict(0)), MEMBERS)

    def test_strict_mode(self):
        history = [RESET, add_roa(0, 2, 3, 1), announce(0, 2, 1, 1), announce(32, 1, 2, 2)]
        off = ask(history, [hijackers(address) for address in (0, 15, 16, 40)])
        self.assertEqual(off, [[7, *others(1)], [7, *others(1)], [8, *MEMBERS], [7, *others(2)]])
        on = ask(history + [set_strict(1)], [hijackers(address) for address in (0, 15, 16, 40)])
        self.assertEqual(on, [[7, *others(1)], [7, *others(1)], [0], [0]])

    def test_strict_mode_and_a_shorter_roa(self):
        # Nothing is announced, so that every authorized prefix attracts the address.
        history = [RESET, add_roa(0, 0, 0, 3), set_strict(1)]
        self.assertEqual(found_at(63, *history), MEMBERS)
        self.assertEqual(found_at(63, *history, announce(0, 0, 3, 3)), [])
        self.assertEqual(found_at(63, *history, announce(0, 0, 5, 3)), [0, 1, 2, 3, 4])

    def test_the_destination_is_never_among_them(self):
        for seed in range(10):
            history = some_calls(seed)[:120]
            found = ask(history, [hijackers(address) for address in ALL_ADDRESSES])
            for holder, answer in zip(announcers(history), found):
                self.assertNotIn(holder, counted(answer))
                self.assertEqual(counted(answer), sorted(set(counted(answer))))

    def test_every_announcement_that_can_be_made(self):
        histories = [
            [RESET, add_roa(0, 2, 3, 1), announce(0, 2, 1, 1), announce(0, 3, 4, 1)],
            [RESET, add_roa(0, 2, 3, 1), announce(0, 3, 4, 1), announce(4, 4, 5, 5), set_strict(1)],
            [
                RESET, add_roa(0, 1, 2, 3), add_roa(0, 2, 4, 5), announce(0, 1, 3, 3),
                announce(4, 4, 6, 5), announce(4, 5, 5, 5),
            ],
            [RESET, add_roa(4, 4, 4, 6), announce(4, 4, 2, 6), announce(0, 0, 6, 6)],
        ]
        for history in histories:
            for address in (5, 20):
                with self.subTest(history=history, address=address):
                    self.assertEqual(found_at(address, *history), can_by_announcing(history, address))

    def test_sixteen_announcements_and_one_on_top(self):
        history = [RESET, add_roa(0, 4, 4, 1)]
        history += [announce(4 * place, 4, 1 + place % 3, 1 + place % 3) for place in range(16)]
        self.assertEqual(last(*history, announce(0, 6, 7, 7)), [-28])
        self.assertEqual(found_at(0, *history), [])
        self.assertEqual(found_at(4, *history), others(2))
        self.assertEqual(found_at(63, *history), others(1))
        for address in (0, 4, 63):
            self.assertEqual(found_at(address, *history), can_by_previews(history, address))

    def test_it_is_what_the_previews_tell(self):
        for seed in range(6):
            history = some_calls(seed)[:130]
            for address in (0, 3, 14, 63):
                with self.subTest(seed=seed, address=address):
                    self.assertEqual(found_at(address, *history), can_by_previews(history, address))

    def test_no_address(self):
        for address in (64, 65, BIGGEST):
            self.assertEqual(last(RESET, hijackers(address)), [-22])
            self.assertEqual(last(RESET, announce(0, 0, 1, 1), hijackers(address)), [-22])


class VulnerableAddresses(unittest.TestCase):

    def test_what_is_answered(self):
        history = [RESET, add_roa(16, 2, 3, 1), announce(16, 2, 1, 1)]
        self.assertEqual(last(*history, vulnerable_addresses(1)), [16, *range(16, 32)])
        self.assertEqual(last(*history, tighten_roas(1), vulnerable_addresses(1)), [0])

    def test_addresses_of_others_and_without_a_destination_are_not_its_own(self):
        history = [RESET, announce(0, 2, 1, 1), announce(8, 3, 2, 2)]
        self.assertEqual(vulnerable(1, *history), list(range(8)))
        self.assertEqual(vulnerable(2, *history), list(range(8, 16)))
        for member in (0, 3, 7):
            self.assertEqual(last(*history, vulnerable_addresses(member)), [0])

    def test_nothing_is_announced(self):
        for member in MEMBERS:
            self.assertEqual(last(RESET, vulnerable_addresses(member)), [0])
            self.assertEqual(last(RESET, set_strict(1), vulnerable_addresses(member)), [0])

    def test_a_prefix_of_length_0(self):
        self.assertEqual(vulnerable(7, RESET, announce(0, 0, 7, 7)), list(ALL_ADDRESSES))
        self.assertEqual(vulnerable(0, RESET, announce(0, 0, 0, 0)), list(ALL_ADDRESSES))
        self.assertEqual(vulnerable(7, RESET, add_roa(0, 0, 0, 7), announce(0, 0, 7, 7)), [])

    def test_prefixes_of_length_6(self):
        history = [RESET, announce(63, 6, 0, 0), announce(0, 6, 0, 0), announce(7, 6, 0, 1)]
        self.assertEqual(vulnerable(0, *history), [7])
        history = [RESET, announce(63, 6, 7, 7), announce(0, 6, 7, 7), announce(7, 6, 7, 0)]
        self.assertEqual(vulnerable(7, *history), [0, 7, 63])

    def test_only_some_of_its_addresses(self):
        history = [
            RESET, add_roa(0, 1, 1, 1), add_roa(8, 3, 3, 2), add_roa(30, 5, 6, 3), announce(0, 1, 1, 1),
        ]
        self.assertEqual(vulnerable(1, *history), list(range(8, 16)) + [30, 31])

    def test_two_announcers_of_the_same_prefix(self):
        history = [RESET, announce(0, 2, 5, 5), announce(0, 2, 2, 2)]
        self.assertEqual(vulnerable(2, *history), list(range(16)))
        self.assertEqual(vulnerable(5, *history), [])
        history += [add_roa(0, 2, 2, 5), add_roa(0, 2, 2, 2)]
        self.assertEqual(vulnerable(2, *history), [])
        self.assertEqual(vulnerable(5, *history, withdraw(0, 2, 2, 2)), list(range(16)))

    def test_strict_mode(self):
        history = [RESET, add_roa(0, 2, 3, 1), announce(0, 2, 1, 1), announce(32, 1, 1, 1)]
        self.assertEqual(vulnerable(1, *history), list(range(16)) + list(range(32, 64)))
        self.assertEqual(vulnerable(1, *history, set_strict(1)), list(range(16)))

    def test_sixteen_announcements(self):
        history = [RESET] + full_announcements(16, 3)
        self.assertEqual(vulnerable(3, *history), list(range(16)))
        self.assertEqual(vulnerable(0, RESET, *full_announcements(16, 0)), [])

    def test_it_is_what_hijackers_and_destination_tell(self):
        for seed in range(10):
            history = some_calls(seed)[:130]
            found = ask(history, [hijackers(address) for address in ALL_ADDRESSES])
            holders = announcers(history)
            for member in MEMBERS:
                expected = [one for one in ALL_ADDRESSES if holders[one] == member and found[one] != [0]]
                self.assertEqual(vulnerable(member, *history), expected)

    def test_no_member(self):
        for member in (8, 9, BIGGEST):
            self.assertEqual(last(RESET, vulnerable_addresses(member)), [-2])
            self.assertEqual(last(RESET, announce(0, 0, 1, 1), vulnerable_addresses(member)), [-2])


if __name__ == "__main__":
    unittest.main()
