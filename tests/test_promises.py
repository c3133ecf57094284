"""The numbered points of the document that reach over several calls, on many made-up states."""

import unittest

from tests.calls import (
    ALL_ADDRESSES, DROPPED_ANNOUNCEMENTS, LIST_ANNOUNCEMENTS, LIST_ROAS, RESET, Numbers, add_roa,
    announce, announcers, around, ask, counted, destination, destinations, hijackers, last,
    preview_announce, quads, run, set_strict, some_calls, tighten_roas, validities, validity, withdraw,
)


def roas_of(history):
    return quads(last(*history, LIST_ROAS)[1:])


def announcements_of(history):
    return quads(last(*history, LIST_ANNOUNCEMENTS)[2:])


def contains(one, address):
    """Whether the prefix of the ROA or announcement contains the address."""
    return one[:2] in around(address)


def rebuilt(history, kept=16):
    """Calls that make the state of the history, with so many of its announcements."""
    strict = last(*history, LIST_ANNOUNCEMENTS)[1]
    return (
        [RESET] + [add_roa(*one) for one in roas_of(history)]
        + [announce(*one) for one in announcements_of(history)[:kept]] + [set_strict(strict)]
    )


def shuffled(things, numbers):
    things = list(things)
    for place in range(len(things) - 1, 0, -1):
        other = numbers.below(place + 1)
        things[place], things[other] = things[other], things[place]
    return things


class AddingARoa(unittest.TestCase):
    """Point 1."""

    def test_what_was_valid_still_is(self):
        for seed in range(6):
            history = rebuilt(some_calls(seed)[:140])
            roas = roas_of(history)
            if len(roas) == 12:
                history = [call for call in history if call != add_roa(*roas[0])]
            before = validities(history)
            self.assertIn([1], before)
            for roa in ((0, 0, 0, 7), (0, 3, 3, 0), (4, 4, 6, 1), (63, 6, 6, 2)):
                after = validities(history + [add_roa(*roa)])
                self.assertEqual({tuple(new) for old, new in zip(before, after) if old == [1]}, {(1,)})


class HijacksNeedOneAnnouncement(unittest.TestCase):
    """Point 2."""

    def check(self, history, address, numbers):
        """Whether the others' announcements change nothing; how many sets of them were tried."""
        able = counted(last(*history, hijackers(address)))
        holder = announcers(history)[address]
        there = announcements_of(history)
        tries = [
            (*prefix, member, origin) for prefix in around(address) for member in range(8)
            for origin in range(8) if member not in able
        ]
        tries = [one for one in shuffled(tries, numbers) if one not in there]
        room = 16 - len(there)
        # One after another, many requests would be needed: several sets go into each.
        sets = [tries[start:start + room] for start in range(0, len(tries), room)]
        for start in range(0, len(sets), 12):
            calls = []
            for made in sets[start:start + 12]:
                calls += [announce(*one) for one in made] + [destination(address)]
                calls += [withdraw(*one) for one in made]
            found = run(*history, *calls)[len(history):]
            told = [answer for call, answer in zip(calls, found) if call[0] == 8]
            expected = [-33] if holder is None else [holder]
            self.assertEqual([answer[:1] for answer in told], [expected] * len(told))
        return len(sets)

    def test_no_set_of_announcements_by_the_others_changes_the_destination(self):
        numbers = Numbers(7)
        tried = 0
        for seed in range(8):
            history = rebuilt(some_calls(seed)[:140], 5)
            for address in (0, 3, 6, 12, 40):
                with self.subTest(seed=seed, address=address):
                    tried += self.check(history, address, numbers)
        self.assertGreater(tried, 200)

    def test_where_some_can_hijack_and_some_can_not(self):
        history = [RESET, add_roa(0, 2, 3, 1), announce(0, 2, 1, 1), announce(0, 3, 4, 1)]
        self.assertEqual(last(*history, hijackers(5)), [4, 0, 1, 2, 3])
        self.assertGreater(self.check(history, 5, Numbers(1)), 10)

    def test_strict_mode_without_any_roa(self):
        history = [RESET, set_strict(1), announce(0, 2, 1, 1)]
        self.assertGreater(self.check(history, 5, Numbers(1)), 10)


class TightRoasPreventHijacks(unittest.TestCase):
    """Point 3."""

    def check(self, history, member):
        """How many addresses of the member are there on which the point says something."""
        after = history + [tighten_roas(member)]
        if last(*after)[0] < 0:
            return 0
        own = [one for one in announcements_of(history) if one[2:] == (member, member)]
        valid = [one for one in own if last(*history, validity(*one[:2], member)) == [1]]
        for one in valid:
            self.assertEqual(last(*after, validity(*one[:2], member)), [1])
        safe = [
            address for address, found in zip(ALL_ADDRESSES, destinations(after))
            if len(found) == 4 and (*found[2:], *found[:2]) in valid
        ]
        self.check_the_name_of_the_member(after, member, safe)
        foreign = [roa for roa in roas_of(after) if roa[3] != member]
        for address in safe:
            if not any(contains(roa, address) for roa in foreign):
                self.assertEqual(last(*after, hijackers(address)), [0])
        return len(safe)

    def check_the_name_of_the_member(self, after, member, safe):
        tries = dict.fromkeys(
            (*prefix, other, member) for address in safe for prefix in around(address)
            for other in range(8) if other != member)
        answered = ask(after, [preview_announce(*one) for one in tries])
        for one, found in zip(tries, answered):
            self.assertEqual([address for address in safe if address in counted(found)], [], one)

    def test_directly_after_tightening(self):
        spoken = 0
        for seed in range(12):
            history = rebuilt(some_calls(seed)[:140])
            for member in range(3):
                with self.subTest(seed=seed, member=member):
                    spoken += self.check(history, member)
        self.assertGreater(spoken, 30)

    def test_a_member_that_announces_much(self):
        history = [
            RESET, add_roa(0, 0, 6, 1), add_roa(8, 3, 6, 2), add_roa(32, 1, 3, 3), announce(0, 1, 1, 1),
            announce(0, 3, 1, 1), announce(4, 4, 1, 1), announce(6, 6, 5, 1), announce(4, 4, 0, 1),
            announce(8, 4, 2, 2), announce(40, 3, 1, 1), announce(48, 2, 3, 3), announce(63, 6, 1, 1),
        ]
        for strict in (0, 1):
            self.assertGreater(self.check(history + [set_strict(strict)], 1), 30)

    def test_a_roa_of_another_origin_leaves_the_hijack_in_its_own_name(self):
        history = [RESET, add_roa(0, 2, 6, 1), add_roa(0, 3, 3, 2), announce(0, 2, 1, 1), tighten_roas(1)]
        self.assertEqual(last(*history, hijackers(0)), [7, 0, 2, 3, 4, 5, 6, 7])
        self.assertEqual(last(*history, hijackers(8)), [0])


class StrictMode(unittest.TestCase):
    """Point 5."""

    def test_every_accepted_announcement_is_valid(self):
        accepted = 0
        for seed in range(12):
            history = some_calls(seed)[:140] + [set_strict(1)]
            dropped = quads(last(*history, DROPPED_ANNOUNCEMENTS)[1:])
            for one in announcements_of(history):
                code = last(*history, validity(one[0], one[1], one[3]))
                self.assertEqual(code == [1], one not in dropped)
                accepted += one not in dropped
        self.assertGreater(accepted, 20)

    def test_a_hijack_is_valid_in_strict_mode(self):
        for seed in range(6):
            history = rebuilt(some_calls(seed)[:140])[:-1] + [set_strict(1)]
            found = announcers(history)
            for address in (0, 5, 9, 63):
                claims = [(*prefix, origin) for prefix in around(address) for origin in range(8)]
                codes = ask(history, [validity(*claim) for claim in claims])
                tries = [
                    (*claim[:2], member, claim[2]) for claim, code in zip(claims, codes)
                    for member in range(8) if member != found[address] and code == [1]
                ]
                answered = ask(history, [preview_announce(*one) for one in tries])
                able = {one[2] for one, moved in zip(tries, answered) if address in counted(moved)}
                self.assertEqual(counted(last(*history, hijackers(address))), sorted(able))


if __name__ == "__main__":
    unittest.main()
