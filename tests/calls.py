"""Calls as tuples, their answers as lists, what they tell of the state, and made-up requests."""

from originways.answer import answers

BIGGEST = 4294967295
RESET = (0,)
DROPPED_ANNOUNCEMENTS = (14,)
LIST_ROAS = (16,)
LIST_ANNOUNCEMENTS = (17,)
ALL_ADDRESSES = range(64)
ALL_PREFIXES = [
    (address, length)
    for length in range(7)
    for address in range(0, 64, 64 >> length)
]


def add_roa(address, length, max_length, origin):
    return (1, address, length, max_length, origin)


def remove_roa(roa):
    return (2, roa)


def announce(address, length, announcer, origin):
    return (3, address, length, announcer, origin)


def withdraw(address, length, announcer, origin):
    return (4, address, length, announcer, origin)


def set_strict(strict):
    return (5, strict)


def tighten_roas(member):
    return (6, member)


def validity(address, length, origin):
    return (7, address, length, origin)


def destination(address):
    return (8, address)


def address_count(member):
    return (9, member)


def hijackers(address):
    return (10, address)


def vulnerable_addresses(member):
    return (11, member)


def preview_tighten(member):
    return (12, member)


def preview_announce(address, length, announcer, origin):
    return (13, address, length, announcer, origin)


def valid_prefix_count(member):
    return (15, member)


def run(*calls):
    """The answer of each call, as a list each; the calls are one request."""
    given = [number for call in calls for number in call]
    assert 1 <= len(calls) <= 400 and len(given) <= 2100, "not a request"
    flat = answers(given)
    found = []
    while flat:
        count = flat[0]
        assert len(flat) > count >= 1
        found.append(flat[1:count + 1])
        flat = flat[count + 1:]
    assert len(found) == len(calls)
    return found


def last(*calls):
    """The answer of the last of the calls."""
    return run(*calls)[-1]


def ask(history, questions):
    """The answers of the questions, none of which changes the state."""
    found = []
    for start in range(0, len(questions), 250):
        part = questions[start:start + 250]
        found += run(*history, *part)[len(history):]
    return found


def counted(answer):
    """What stands behind the count in an answer, which must be as many numbers as it tells."""
    assert answer[0] == len(answer) - 1, answer
    return answer[1:]


def quads(numbers):
    """The numbers as tuples of four."""
    assert len(numbers) % 4 == 0, numbers
    return [tuple(numbers[place:place + 4]) for place in range(0, len(numbers), 4)]


def around(address):
    """The prefixes that contain the address, the shortest first."""
    return [(address >> 6 - length << 6 - length, length) for length in range(7)]


def destinations(history):
    """What destination answers for each address."""
    return ask(history, [destination(address) for address in ALL_ADDRESSES])


def announcers(history):
    """The destination of each address, None where there is none."""
    return [None if len(found) == 1 else found[0] for found in destinations(history)]


def moved(history, change):
    """At how many addresses the destination differs after the change."""
    before = announcers(history)
    after = announcers(list(history) + [change])
    return len([1 for old, new in zip(before, after) if old != new])


def validities(history):
    """The validity of every prefix with every origin."""
    return ask(history, [
        validity(address, length, origin)
        for address, length in ALL_PREFIXES for origin in range(8)
    ])


def possible_roas(history):
    """The ROAs that can have come into being by the calls."""
    found = [call[1:] for call in history if call[0] == 1]
    found += [(call[1], call[2], call[2], call[3]) for call in history if call[0] == 3]
    return list(dict.fromkeys(found))


def stored_roas(history):
    """The ROAs in the order of their indices."""
    def kept(calls):
        return [roa for roa in possible_roas(history) if last(*calls, add_roa(*roa)) == [-17]]

    stored = kept(history)
    ordered = []
    for index in range(len(stored)):
        left = kept(list(history) + [remove_roa(index)])
        ordered += [roa for roa in stored if roa not in left]
    return ordered


def stored_announcements(history):
    """The announcements that are stored, with those that are dropped."""
    possible = dict.fromkeys(call[1:] for call in history if call[0] == 3)
    return [one for one in possible if last(*history, announce(*one)) == [-17]]


def state(history):
    """Everything that the calls tell of the state after the history."""
    history = list(history)
    announced = stored_announcements(history)
    return {
        "roas": stored_roas(history),
        "without a ROA": last(*history, remove_roa(0)),
        "announcements": announced,
        "without an announcement": [last(*history, withdraw(*one)) for one in announced],
        "strict": last(*history, set_strict(0)),
        "destinations": destinations(history),
        "validities": validities(history),
        "listed": ask(history, [LIST_ROAS, LIST_ANNOUNCEMENTS, DROPPED_ANNOUNCEMENTS]),
    }


def full_roas(count, origin=0):
    """Calls that add so many ROAs, of the single addresses 0 to count - 1."""
    return [add_roa(address, 6, 6, origin) for address in range(count)]


def full_announcements(count, member=0):
    """Calls that add so many announcements, of the single addresses 0 to count - 1."""
    return [announce(address, 6, member, member) for address in range(count)]


class Numbers:
    """Numbers that look random and are the same in each run."""

    def __init__(self, seed):
        self.seed = seed

    def below(self, limit):
        self.seed = (self.seed * 1103515245 + 12345) % 2 ** 31
        return (self.seed >> 8) % limit

    def one_in(self, count):
        return self.below(count) == 0


def some_prefix(numbers):
    if numbers.one_in(25):
        return (numbers.below(66), numbers.below(8))
    length = numbers.below(7)
    size = 2 ** (6 - length)
    # Few addresses, so that many prefixes contain one another.
    return (numbers.below(16 if numbers.below(4) else 64) // size * size, length)


def some_member(numbers, members):
    return 8 if numbers.one_in(40) else numbers.below(members)


def some_announcement(numbers, members):
    announcer = some_member(numbers, members)
    origin = announcer if numbers.below(2) else some_member(numbers, members)
    return (*some_prefix(numbers), announcer, origin)


def some_call(numbers, members, known):
    kind = numbers.below(130)
    if kind < 18:
        address, length = some_prefix(numbers)
        max_length = numbers.below(8) if numbers.one_in(10) else min(6, length + numbers.below(4))
        return add_roa(address, length, max_length, some_member(numbers, members))
    if kind < 24:
        return remove_roa(numbers.below(13))
    if kind < 46:
        if known and numbers.one_in(8):
            return announce(*known[numbers.below(len(known))])
        return announce(*some_announcement(numbers, members))
    if kind < 56:
        if known and numbers.below(5):
            return withdraw(*known[numbers.below(len(known))])
        return withdraw(*some_announcement(numbers, members))
    if kind < 62:
        return set_strict(numbers.below(3) if numbers.one_in(4) else numbers.below(2))
    if kind < 65:
        return tighten_roas(some_member(numbers, members))
    return some_question(numbers, members, known)


def some_question(numbers, members, known):
    kind = numbers.below(65)
    member = some_member(numbers, members)
    if kind < 12:
        return validity(*some_prefix(numbers), member)
    if kind < 30:
        return destination(numbers.below(66))
    if kind < 38:
        return hijackers(numbers.below(66 if numbers.one_in(2) else 16))
    if kind < 48:
        if known and numbers.one_in(4):
            return preview_announce(*known[numbers.below(len(known))])
        return preview_announce(*some_announcement(numbers, members))
    return [
        address_count(member), address_count(member), address_count(member),
        vulnerable_addresses(member), vulnerable_addresses(member),
        preview_tighten(member), preview_tighten(member),
        valid_prefix_count(member), valid_prefix_count(member),
        DROPPED_ANNOUNCEMENTS, LIST_ROAS, LIST_ANNOUNCEMENTS,
    ][numbers.below(12)]


def some_calls(seed):
    """Calls of one request."""
    numbers = Numbers(seed)
    members = 2 + numbers.below(7)
    calls = [RESET]
    known = []
    while len(calls) < 400:
        call = RESET if numbers.one_in(200) else some_call(numbers, members, known)
        if call[0] == 3:
            known.append(call[1:])
        calls.append(call)
    return calls
