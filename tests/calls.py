"""How the tests write calls, and how they read what is answered."""

from rehearsalday.day import answers

LARGE = 4294967295


def begins():
    return [0]


def player(cost=1, since=0, till=3600):
    return [1, cost, since, till]


def piece(minutes=10, players=()):
    return [2, minutes, len(players)] + list(players)


def ahead(i, j):
    return [3, i, j]


def players(count):
    return [player() for number in range(count)]


def pieces(count):
    return [piece() for number in range(count)]


def joined(calls):
    return [number for call in calls for number in call]


def asked(calls):
    """What each of the calls answers, as a list of its numbers."""
    given = answers(joined(calls))
    found = []
    at = 0
    while at < len(given):
        end = at + 1 + given[at]
        if given[at] < 1 or end > len(given):
            raise ValueError("an answer has a wrong length")
        found.append(given[at + 1:end])
        at = end
    if len(found) != len(calls):
        raise ValueError(f"{len(calls)} calls, {len(found)} answers")
    return found


def last(calls):
    """The one number that the last of the calls answers."""
    (number,) = asked(calls)[-1]
    return number
