"""Long requests, compared with a model that follows the document word by word.

The model keeps prefixes as sets of addresses and shares nothing with the package.
"""

import functools
import unittest

from tests.calls import RESET, destination, run, set_strict, some_calls, validity


@functools.lru_cache(maxsize=None)
def addresses(address, length):
    """The addresses of the prefix, None where it is no prefix."""
    if length > 6 or address > 63 or address % 2 ** (6 - length):
        return None
    return frozenset(range(address, address + 2 ** (6 - length)))


def rank(one):
    """The announcement with the lowest rank is preferred."""
    return (-one[1], one[2] != one[3], one[2], one[3])


PREFIXES = [
    (address, length) for address in range(64) for length in range(7)
    if addresses(address, length) is not None
]


class Model:

    def __init__(self, roas=(), announcements=(), strict=0):
        self.roas = list(roas)
        self.announcements = list(announcements)
        self.strict = strict

    def validity(self, address, length, origin):
        covering = [roa for roa in self.roas if addresses(*roa[:2]) >= addresses(address, length)]
        if any(roa[3] == origin and roa[2] >= length for roa in covering):
            return 1
        return 2 if covering else 0

    def accepts(self, one):
        return self.validity(one[0], one[1], one[3]) in ((1,) if self.strict else (1, 0))

    def accepted(self):
        """The accepted announcements, the most preferred one first."""
        return sorted((one for one in self.announcements if self.accepts(one)), key=rank)

    def destinations(self):
        found = {}
        for one in reversed(self.accepted()):
            for address in addresses(*one[:2]):
                found[address] = one[2]
        return [found.get(address) for address in range(64)]

    def can_hijack(self, address):
        """The members that can hijack the address: each tries every prefix that contains it."""
        best = min((one for one in self.accepted() if address in addresses(*one[:2])), key=rank, default=None)
        claims = [
            (*prefix, origin) for prefix in PREFIXES if address in addresses(*prefix)
            for origin in range(8) if self.accepts((*prefix, None, origin))
        ]
        return [
            member for member in range(8) if (best is None or best[2] != member) and any(
                best is None or rank((claim[0], claim[1], member, claim[2])) < rank(best)
                for claim in claims)
        ]

    def vulnerable(self, member):
        found = self.destinations()
        return [address for address in range(64) if found[address] == member and self.can_hijack(address)]

    def tightened(self, member):
        tight = [
            (one[0], one[1], one[1], member) for one in self.announcements
            if one[2:] == (member, member) and self.validity(*one[:2], member) == 1
        ]
        return [roa for roa in self.roas if roa[3] != member] + tight

    def moves(self, after):
        """The addresses that move when the state becomes that of the other model."""
        now, then = self.destinations(), after.destinations()
        return [address for address in range(64) if now[address] != then[address]]

    def change(self, first, call):
        """Answer with `first` and the number of addresses that the change moves."""
        before = self.destinations()
        call()
        return [first(), sum(old != new for old, new in zip(before, self.destinations()))]

    def add_roa(self, *roa):
        if roa[3] > 7:
            return [-2]
        if addresses(*roa[:2]) is None or not roa[1] <= roa[2] <= 6:
            return [-22]
        if roa in self.roas:
            return [-17]
        if len(self.roas) == 12:
            return [-28]
        return self.change(lambda: len(self.roas) - 1, lambda: self.roas.append(roa))

    def remove_roa(self, index):
        if index >= len(self.roas):
            return [-2]
        return self.change(lambda: len(self.roas), lambda: self.roas.pop(index))

    def announce(self, *one):
        if one[2] > 7 or one[3] > 7:
            return [-2]
        if addresses(*one[:2]) is None:
            return [-22]
        if one in self.announcements:
            return [-17]
        if len(self.announcements) == 16:
            return [-28]
        return self.change(
            lambda: self.validity(one[0], one[1], one[3]), lambda: self.announcements.append(one))

    def withdraw(self, *one):
        if one[2] > 7 or one[3] > 7:
            return [-2]
        if one not in self.announcements:
            return [-6]
        return self.change(lambda: len(self.announcements), lambda: self.announcements.remove(one))

    def set_strict(self, strict):
        if strict > 1:
            return [-22]
        previous = self.strict
        return self.change(lambda: previous, lambda: setattr(self, "strict", strict))

    def tighten_roas(self, member):
        if member > 7:
            return [-2]
        roas = self.tightened(member)
        if len(roas) > 12:
            return [-28]
        return self.change(lambda: len(self.roas), lambda: setattr(self, "roas", roas))

    def ask_validity(self, address, length, origin):
        if origin > 7:
            return [-2]
        if addresses(address, length) is None:
            return [-22]
        return [self.validity(address, length, origin)]

    def destination(self, address):
        if address > 63:
            return [-22]
        for best in self.accepted():
            if address in addresses(*best[:2]):
                return [best[2], best[3], best[0], best[1]]
        return [-33]

    def address_count(self, member):
        found = self.destinations()
        return [-2] if member > 7 else [found.count(member), found.count(None)]

    def hijackers(self, address):
        if address > 63:
            return [-22]
        found = self.can_hijack(address)
        return [len(found), *found]

    def vulnerable_addresses(self, member):
        if member > 7:
            return [-2]
        found = self.vulnerable(member)
        return [len(found), *found]

    def preview_tighten(self, member):
        if member > 7:
            return [-2]
        after = Model(self.tightened(member), self.announcements, self.strict)
        return [len(after.vulnerable(member)), len(self.moves(after))]

    def preview_announce(self, *one):
        if one[2] > 7 or one[3] > 7:
            return [-2]
        if addresses(*one[:2]) is None:
            return [-22]
        if one in self.announcements:
            return [0]
        found = self.moves(Model(self.roas, self.announcements + [one], self.strict))
        return [len(found), *found]

    def dropped_announcements(self):
        accepted = self.accepted()
        found = [one for one in self.announcements if one not in accepted]
        return [len(found), *sum(found, ())]

    def valid_prefix_count(self, member):
        if member > 7:
            return [-2]
        return [len([1 for prefix in PREFIXES if self.validity(*prefix, member) == 1])]

    def list_roas(self):
        return [len(self.roas), *sum(self.roas, ())]

    def list_announcements(self):
        return [len(self.announcements), self.strict, *sum(self.announcements, ())]

    def answer(self, call):
        if call == RESET:
            self.__init__()
            return [0]
        named = {
            1: self.add_roa, 2: self.remove_roa, 3: self.announce, 4: self.withdraw,
            5: self.set_strict, 6: self.tighten_roas, 7: self.ask_validity, 8: self.destination,
            9: self.address_count, 10: self.hijackers, 11: self.vulnerable_addresses,
            12: self.preview_tighten, 13: self.preview_announce, 14: self.dropped_announcements,
            15: self.valid_prefix_count, 16: self.list_roas, 17: self.list_announcements,
        }
        return named[call[0]](*call[1:])


class AgainstTheModel(unittest.TestCase):

    def test_long_requests(self):
        refused = {}
        for seed in range(40):
            calls = some_calls(seed)
            model = Model()
            expected = [model.answer(call) for call in calls]
            with self.subTest(seed=seed):
                self.assertEqual(run(*calls), expected)
            for call, answer in zip(calls, expected):
                refused.setdefault((call[0], min(answer[0], 0)), 0)
                refused[call[0], min(answer[0], 0)] += 1
        # The requests are worth something only where they reach every answer.
        self.assertEqual(sorted(refused), sorted(
            [(number, 0) for number in range(18)]
            + [(1, -2), (1, -22), (1, -17), (1, -28), (2, -2)]
            + [(3, -2), (3, -22), (3, -17), (3, -28), (4, -2), (4, -6)]
            + [(5, -22), (6, -2), (6, -28), (7, -2), (7, -22), (8, -22), (8, -33)]
            + [(9, -2), (10, -22), (11, -2), (12, -2), (13, -2), (13, -22), (15, -2)]))

    def test_in_strict_mode_what_is_selected_is_valid(self):
        for seed in range(8):
            history = some_calls(seed)[:80] + [set_strict(1)]
            found = run(*history, *[destination(address) for address in range(64)])[81:]
            chosen = [answer for answer in found if len(answer) == 4]
            asked = [validity(answer[2], answer[3], answer[1]) for answer in chosen]
            self.assertEqual(run(*history, *asked)[81:], [[1]] * len(chosen))


if __name__ == "__main__":
    unittest.main()
