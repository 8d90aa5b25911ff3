"""How the tests write calls, read what is answered, and find by themselves what is to be answered."""

import itertools

from rehearsalday.day import answers

LARGE = 4294967295


def begins():
    return [0]


def player(cost=1, since=0, till=3600):
    return [1, cost, since, till]


def piece(minutes=10, players=()):
    return [2, minutes, len(players)] + list(players)


def ahead(i, j):
    return [3, i, j]


def best():
    return [4]


def check(order):
    return [5, len(order)] + list(order)


def work():
    return [6]


def players(count):
    return [player() for number in range(count)]


def pieces(count):
    return [piece() for number in range(count)]


def joined(calls):
    return [number for call in calls for number in call]


def lists_in(numbers):
    """The lists that stand one behind another, each behind how many it has."""
    found = []
    at = 0
    while at < len(numbers):
        end = at + 1 + numbers[at]
        if numbers[at] < 0 or end > len(numbers):
            raise ValueError("a list has a wrong length")
        found.append(numbers[at + 1:end])
        at = end
    return found


def asked(calls):
    """What each of the calls answers, as a list of its numbers."""
    found = lists_in(answers(joined(calls)))
    if len(found) != len(calls) or [] in found:
        raise ValueError(f"{len(calls)} calls are answered by {found}")
    return found


def last(calls):
    """The one number that the last of the calls answers."""
    (number,) = asked(calls)[-1]
    return number


def parted(answer):
    """The number that is answered, and the lists behind it."""
    return answer[0], lists_in(answer[1:])


def last_parted(calls):
    """The number that the last of the calls answers, and the lists behind it."""
    return parted(asked(calls)[-1])


class PlainDay:
    """A day as the document's words tell it: what is to be answered is found piece by piece, not on the way."""

    def __init__(self, players=(), pieces=(), pairs=()):
        self.players = list(players)
        self.pieces = list(pieces)
        self.pairs = list(pairs)

    def told(self):
        """The calls that tell this day."""
        return ([player(*told) for told in self.players] + [piece(*told) for told in self.pieces]
                + [ahead(*told) for told in self.pairs])

    def orders(self):
        return [list(order) for order in itertools.permutations(range(len(self.pieces)))]

    def begins_at(self, order, number):
        return sum(self.pieces[other][0] for other in order[:order.index(number)])

    def stay(self, order, who):
        """When somebody comes, goes, and how long they wait."""
        parts = [number for number, told in enumerate(self.pieces) if who in told[1]]
        if not parts:
            return []
        come = min(self.begins_at(order, number) for number in parts)
        go = max(self.begins_at(order, number) + self.pieces[number][0] for number in parts)
        return [come, go, go - come - sum(self.pieces[number][0] for number in parts)]

    def stays(self, order):
        return [self.stay(order, who) for who in range(len(self.players))]

    def wrong(self, order):
        """All that is wrong with an order, what is told first at the beginning."""
        faults = [[1, which] for which, (i, j) in enumerate(self.pairs) if order.index(i) > order.index(j)]
        for who, stay in enumerate(self.stays(order)):
            if stay:
                faults += [[2, who]] * (stay[0] < self.players[who][1])
                faults += [[3, who]] * (stay[1] > self.players[who][2])
        return faults

    def cost(self, order):
        stays = self.stays(order)
        return sum(told[0] * (stay[1] - stay[0]) for told, stay in zip(self.players, stays) if stay)

    def best(self):
        """What best is to answer, parted."""
        costs = {tuple(order): self.cost(order) for order in self.orders() if not self.wrong(order)}
        if not costs:
            return -6, []
        lowest = min(costs.values())
        cheapest = sorted(order for order in costs if costs[order] == lowest)
        return lowest, [[len(cheapest)], list(cheapest[0])] + self.stays(list(cheapest[0]))

    def check(self, order):
        """What check is to answer, parted."""
        if any(order.count(number) != 1 for number in range(len(self.pieces))) or len(order) != len(self.pieces):
            return -1, []
        faults = self.wrong(order)
        if faults:
            return 0, [faults[0]]
        return 1, [[self.cost(order)]] + self.stays(order)

    def work(self):
        """What work is to answer, parted."""
        paid = sum(told[0] * minutes for who, told in enumerate(self.players)
                   for minutes, whom in self.pieces if who in whom)
        return paid, [[sum(minutes for minutes, whom in self.pieces)]]


def some_day(chance, crew, count):
    """A day by chance with so many players and pieces; mostly at least one order of it is right."""
    longest = chance.choice((1, 3, 40, 600))
    parts = [(chance.randint(1, longest), sorted(chance.sample(range(crew), chance.randint(0, crew))))
             for number in range(count)]
    wished = chance.sample(range(count), count)
    day = PlainDay([(0, 0, 3600)] * crew, parts)
    dearest = chance.choice((0, 1, 2, 1000))
    day.players = [some_player(chance, dearest, stay) for stay in day.stays(wished)]
    pairs = list(itertools.combinations(wished, 2))
    day.pairs = chance.sample(pairs, chance.randint(0, min(3, len(pairs))))
    if day.pairs and chance.random() < 0.05:
        day.pairs.append(day.pairs[0][::-1])
    return day


def some_player(chance, dearest, stay):
    cost = chance.randint(0, dearest)
    if not stay or chance.random() < 0.4:
        return cost, 0, 3600
    slack = chance.choice((0, 0, 1, 5, 100))
    late = chance.random() < 0.04
    return cost, min(max(stay[0] - slack, 0) + late, stay[1]), min(stay[1] + slack, 3600)
