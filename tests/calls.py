"""Calls as tuples, their answers as lists, and what they tell of the state."""

from originways.answer import answers

BIGGEST = 4294967295
RESET = (0,)
ALL_ADDRESSES = range(64)
ALL_PREFIXES = [
    (address, length)
    for length in range(7)
    for address in range(0, 64, 64 >> length)
]


def add_roa(address, length, max_length, origin):
    return (1, address, length, max_length, origin)


def remove_roa(roa):
    return (2, roa)


def announce(address, length, announcer, origin):
    return (3, address, length, announcer, origin)


def withdraw(address, length, announcer, origin):
    return (4, address, length, announcer, origin)


def set_strict(strict):
    return (5, strict)


def tighten_roas(member):
    return (6, member)


def validity(address, length, origin):
    return (7, address, length, origin)


def destination(address):
    return (8, address)


def run(*calls):
    """The answer of each call, as a list each; the calls are one request."""
    given = [number for call in calls for number in call]
    assert 1 <= len(calls) <= 400 and len(given) <= 2100, "not a request"
    flat = answers(given)
    found = []
    while flat:
        count = flat[0]
        assert len(flat) > count >= 1
        found.append(flat[1:count + 1])
        flat = flat[count + 1:]
    assert len(found) == len(calls)
    return found


def last(*calls):
    """The answer of the last of the calls."""
    return run(*calls)[-1]


def ask(history, questions):
    """The answers of the questions, none of which changes the state."""
    found = []
    for start in range(0, len(questions), 250):
        part = questions[start:start + 250]
        found += run(*history, *part)[len(history):]
    return found


def destinations(history):
    """What destination answers for each address."""
    return ask(history, [destination(address) for address in ALL_ADDRESSES])


def announcers(history):
    """The destination of each address, None where there is none."""
    return [None if len(found) == 1 else found[0] for found in destinations(history)]


def moved(history, change):
    """At how many addresses the destination differs after the change."""
    before = announcers(history)
    after = announcers(list(history) + [change])
    return len([1 for old, new in zip(before, after) if old != new])


def validities(history):
    """The validity of every prefix with every origin."""
    return ask(history, [
        validity(address, length, origin)
        for address, length in ALL_PREFIXES for origin in range(8)
    ])


def possible_roas(history):
    """The ROAs that can have come into being by the calls."""
    found = [call[1:] for call in history if call[0] == 1]
    found += [(call[1], call[2], call[2], call[3]) for call in history if call[0] == 3]
    return list(dict.fromkeys(found))


def stored_roas(history):
    """The ROAs in the order of their indices."""
    def kept(calls):
        return [roa for roa in possible_roas(history) if last(*calls, add_roa(*roa)) == [-17]]

    stored = kept(history)
    ordered = []
    for index in range(len(stored)):
        left = kept(list(history) + [remove_roa(index)])
        ordered += [roa for roa in stored if roa not in left]
    return ordered


def stored_announcements(history):
    """The announcements that are stored, with those that are dropped."""
    possible = dict.fromkeys(call[1:] for call in history if call[0] == 3)
    return [one for one in possible if last(*history, announce(*one)) == [-17]]


def state(history):
    """Everything that the calls tell of the state after the history."""
    history = list(history)
    announced = stored_announcements(history)
    return {
        "roas": stored_roas(history),
        "without a ROA": last(*history, remove_roa(0)),
        "announcements": announced,
        "without an announcement": [last(*history, withdraw(*one)) for one in announced],
        "strict": last(*history, set_strict(0)),
        "destinations": destinations(history),
        "validities": validities(history),
    }


def full_roas(count, origin=0):
    """Calls that add so many ROAs, of the single addresses 0 to count - 1."""
    return [add_roa(address, 6, 6, origin) for address in range(count)]


def full_announcements(count, member=0):
    """Calls that add so many announcements, of the single addresses 0 to count - 1."""
    return [announce(address, 6, member, member) for address in range(count)]
