"""Long requests, compared with a model that follows the document word by word.

The model keeps prefixes as sets of addresses and shares nothing with the package.
"""

import functools
import unittest

from tests.calls import (
    RESET, add_roa, announce, destination, remove_roa, run, set_strict, tighten_roas, validity,
    withdraw,
)


@functools.lru_cache(maxsize=None)
def addresses(address, length):
    """The addresses of the prefix, None where it is no prefix."""
    if length > 6 or address > 63 or address % 2 ** (6 - length):
        return None
    return frozenset(range(address, address + 2 ** (6 - length)))


class Model:

    def __init__(self):
        self.roas = []
        self.announcements = []
        self.strict = 0

    def validity(self, address, length, origin):
        covering = [roa for roa in self.roas if addresses(*roa[:2]) >= addresses(address, length)]
        if any(roa[3] == origin and roa[2] >= length for roa in covering):
            return 1
        return 2 if covering else 0

    def accepted(self):
        """The accepted announcements, the most preferred one first."""
        codes = (1,) if self.strict else (1, 0)
        found = [one for one in self.announcements if self.validity(one[0], one[1], one[3]) in codes]
        return sorted(found, key=lambda one: (-one[1], one[2] != one[3], one[2], one[3]))

    def destinations(self):
        found = {}
        for one in reversed(self.accepted()):
            for address in addresses(*one[:2]):
                found[address] = one[2]
        return [found.get(address) for address in range(64)]

    def change(self, first, call):
        """Answer with `first` and the number of addresses that the change moves."""
        before = self.destinations()
        call()
        return [first(), sum(old != new for old, new in zip(before, self.destinations()))]

    def add_roa(self, *roa):
        if roa[3] > 7:
            return [-2]
        if addresses(*roa[:2]) is None or not roa[1] <= roa[2] <= 6:
            return [-22]
        if roa in self.roas:
            return [-17]
        if len(self.roas) == 12:
            return [-28]
        return self.change(lambda: len(self.roas) - 1, lambda: self.roas.append(roa))

    def remove_roa(self, index):
        if index >= len(self.roas):
            return [-2]
        return self.change(lambda: len(self.roas), lambda: self.roas.pop(index))

    def announce(self, *one):
        if one[2] > 7 or one[3] > 7:
            return [-2]
        if addresses(*one[:2]) is None:
            return [-22]
        if one in self.announcements:
            return [-17]
        if len(self.announcements) == 16:
            return [-28]
        return self.change(
            lambda: self.validity(one[0], one[1], one[3]), lambda: self.announcements.append(one))

    def withdraw(self, *one):
        if one[2] > 7 or one[3] > 7:
            return [-2]
        if one not in self.announcements:
            return [-6]
        return self.change(lambda: len(self.announcements), lambda: self.announcements.remove(one))

    def set_strict(self, strict):
        if strict > 1:
            return [-22]
        previous = self.strict
        return self.change(lambda: previous, lambda: setattr(self, "strict", strict))

    def tighten_roas(self, member):
        if member > 7:
            return [-2]
        tight = [
            (one[0], one[1], one[1], member) for one in self.announcements
            if one[2:] == (member, member) and self.validity(*one[:2], member) == 1
        ]
        roas = [roa for roa in self.roas if roa[3] != member] + tight
        if len(roas) > 12:
            return [-28]
        return self.change(lambda: len(self.roas), lambda: setattr(self, "roas", roas))

    def ask_validity(self, address, length, origin):
        if origin > 7:
            return [-2]
        if addresses(address, length) is None:
            return [-22]
        return [self.validity(address, length, origin)]

    def destination(self, address):
        if address > 63:
            return [-22]
        for best in self.accepted():
            if address in addresses(*best[:2]):
                return [best[2], best[3], best[0], best[1]]
        return [-33]

    def answer(self, call):
        if call == RESET:
            self.__init__()
            return [0]
        named = {
            1: self.add_roa, 2: self.remove_roa, 3: self.announce, 4: self.withdraw,
            5: self.set_strict, 6: self.tighten_roas, 7: self.ask_validity, 8: self.destination,
        }
        return named[call[0]](*call[1:])


class Numbers:
    """Numbers that look random and are the same in each run."""

    def __init__(self, seed):
        self.seed = seed

    def below(self, limit):
        self.seed = (self.seed * 1103515245 + 12345) % 2 ** 31
        return (self.seed >> 8) % limit

    def one_in(self, count):
        return self.below(count) == 0


def some_prefix(numbers):
    if numbers.one_in(25):
        return (numbers.below(66), numbers.below(8))
    length = numbers.below(7)
    size = 2 ** (6 - length)
    # Few addresses, so that many prefixes contain one another.
    return (numbers.below(16 if numbers.below(4) else 64) // size * size, length)


def some_member(numbers, members):
    return 8 if numbers.one_in(40) else numbers.below(members)


def some_announcement(numbers, members):
    announcer = some_member(numbers, members)
    origin = announcer if numbers.below(2) else some_member(numbers, members)
    return (*some_prefix(numbers), announcer, origin)


def some_call(numbers, members, known):
    kind = numbers.below(100)
    if kind < 18:
        address, length = some_prefix(numbers)
        max_length = numbers.below(8) if numbers.one_in(10) else min(6, length + numbers.below(4))
        return add_roa(address, length, max_length, some_member(numbers, members))
    if kind < 24:
        return remove_roa(numbers.below(13))
    if kind < 46:
        if known and numbers.one_in(8):
            return announce(*known[numbers.below(len(known))])
        return announce(*some_announcement(numbers, members))
    if kind < 56:
        if known and numbers.below(5):
            return withdraw(*known[numbers.below(len(known))])
        return withdraw(*some_announcement(numbers, members))
    if kind < 62:
        return set_strict(numbers.below(3) if numbers.one_in(4) else numbers.below(2))
    if kind < 65:
        return tighten_roas(some_member(numbers, members))
    if kind < 80:
        return validity(*some_prefix(numbers), some_member(numbers, members))
    return destination(numbers.below(66))


def some_calls(seed):
    """Calls of one request."""
    numbers = Numbers(seed)
    members = 2 + numbers.below(7)
    calls = [RESET]
    known = []
    while len(calls) < 400:
        call = RESET if numbers.one_in(200) else some_call(numbers, members, known)
        if call[0] == 3:
            known.append(call[1:])
        calls.append(call)
    return calls


class AgainstTheModel(unittest.TestCase):

    def test_long_requests(self):
        refused = {}
        for seed in range(40):
            calls = some_calls(seed)
            model = Model()
            expected = [model.answer(call) for call in calls]
            with self.subTest(seed=seed):
                self.assertEqual(run(*calls), expected)
            for call, answer in zip(calls, expected):
                refused.setdefault((call[0], min(answer[0], 0)), 0)
                refused[call[0], min(answer[0], 0)] += 1
        # The requests are worth something only where they reach every answer.
        self.assertEqual(sorted(refused), sorted(
            [(number, 0) for number in range(9)]
            + [(1, -2), (1, -22), (1, -17), (1, -28), (2, -2)]
            + [(3, -2), (3, -22), (3, -17), (3, -28), (4, -2), (4, -6)]
            + [(5, -22), (6, -2), (6, -28), (7, -2), (7, -22), (8, -22), (8, -33)]))

    def test_in_strict_mode_what_is_selected_is_valid(self):
        for seed in range(8):
            history = some_calls(seed)[:80] + [set_strict(1)]
            found = run(*history, *[destination(address) for address in range(64)])[81:]
            chosen = [answer for answer in found if len(answer) == 4]
            asked = [validity(answer[2], answer[3], answer[1]) for answer in chosen]
            self.assertEqual(run(*history, *asked)[81:], [[1]] * len(chosen))


if __name__ == "__main__":
    unittest.main()
