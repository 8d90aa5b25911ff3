"""One day of rehearsals: its players, its pieces, which piece is to be ahead of which, and the calls about them."""

BEGINS = 0
PLAYER = 1
PIECE = 2
AHEAD = 3
BEST = 4
CHECK = 5
WORK = 6

# What may be wrong with an order.
BEHIND = 1
TOO_EARLY = 2
TOO_LATE = 3

MOST_PLAYERS = 6
MOST_PIECES = 6
HIGHEST_COST = 1000
LAST_MINUTE = 3600
LONGEST_PIECE = 600


class Player:
    """What a minute of somebody costs, from when they can be there, and by when they must be done."""

    def __init__(self, cost, since, till):
        self.cost = cost
        self.since = since
        self.till = till


class Piece:
    """How long a piece is, and the numbers of those who are in it."""

    def __init__(self, minutes, players):
        self.minutes = minutes
        self.players = players


class Day:
    """What has been told of a day; a refused call answers a number below 0 and leaves all as it was."""

    def __init__(self):
        self.players = []
        self.pieces = []
        self.pairs = []

    def begin(self):
        """Forget all that has been told."""
        self.players = []
        self.pieces = []
        self.pairs = []
        return 0

    def add_player(self, cost, since, till):
        """Answer the new player's number."""
        if cost > HIGHEST_COST or till < since or till > LAST_MINUTE:
            return -1
        if len(self.pieces) > 0:
            return -4
        if len(self.players) == MOST_PLAYERS:
            return -5
        self.players.append(Player(cost, since, till))
        return len(self.players) - 1

    def add_piece(self, minutes, players):
        """Answer the new piece's number."""
        if minutes < 1 or minutes > LONGEST_PIECE:
            return -1
        if not rise_below(players, len(self.players)):
            return -1
        if len(self.pieces) == MOST_PIECES:
            return -5
        self.pieces.append(Piece(minutes, list(players)))
        return len(self.pieces) - 1

    def put_ahead(self, i, j):
        """Answer how many pairs are told once i is to be ahead of j."""
        if i >= len(self.pieces) or j >= len(self.pieces):
            return -2
        if i == j or (i, j) in self.pairs:
            return -3
        # The same pair the other way round is another pair: it leaves no right order, but it may be told.
        self.pairs.append((i, j))
        return len(self.pairs)

    def stays_in(self, order):
        """For each player: when they come, when they go, how long they wait; an empty list, if they're in nothing."""
        stays = [[] for player in self.players]
        now = 0
        for number in order:
            piece = self.pieces[number]
            for who in piece.players:
                if stays[who] == []:
                    stays[who] = [now, now, 0]
                waited = stays[who][2] + now - stays[who][1]
                stays[who] = [stays[who][0], now + piece.minutes, waited]
            now += piece.minutes
        return stays

    def first_fault(self, order, stays):
        """What is wrong with an order first, and which pair or who; an empty list, if it is right."""
        for which, pair in enumerate(self.pairs):
            if order.index(pair[0]) > order.index(pair[1]):
                return [BEHIND, which]
        for who, player in enumerate(self.players):
            stay = stays[who]
            if stay != [] and stay[0] < player.since:
                return [TOO_EARLY, who]
            if stay != [] and stay[1] > player.till:
                return [TOO_LATE, who]
        return []

    def pay_for(self, stays):
        """What all players cost for the minutes that they're there."""
        total = 0
        for player, stay in zip(self.players, stays):
            if stay != []:
                total += player.cost * (stay[1] - stay[0])
        return total

    def best(self):
        """What the cheapest right order costs, how many cost as little, the earliest of them, its players' stays."""
        lowest = 0
        earliest = []
        count = 0
        for order in all_orders(len(self.pieces)):
            stays = self.stays_in(order)
            if self.first_fault(order, stays) == []:
                paid = self.pay_for(stays)
                if count == 0 or paid < lowest:
                    # Earlier orders come first, so a later one that costs as much only counts.
                    lowest = paid
                    earliest = order
                    count = 1
                elif paid == lowest:
                    count += 1
        if count == 0:
            return [-6]
        return with_lists(lowest, [[count], earliest] + self.stays_in(earliest))

    def check(self, order):
        """1, what a right order costs and its players' stays; or 0 and what is wrong with it."""
        if sorted(order) != list(range(len(self.pieces))):
            return [-1]
        stays = self.stays_in(order)
        fault = self.first_fault(order, stays)
        if fault != []:
            return with_lists(0, [fault])
        return with_lists(1, [[self.pay_for(stays)]] + stays)

    def work(self):
        """What all players would cost if nobody had to wait, and how long all pieces are together."""
        paid = 0
        minutes = 0
        for piece in self.pieces:
            minutes += piece.minutes
            for who in piece.players:
                paid += self.players[who].cost * piece.minutes
        return with_lists(paid, [[minutes]])


def all_orders(count):
    """Each order of so many pieces, the earlier ahead of the later."""
    orders = [[]]
    for place in range(count):
        longer = []
        for order in orders:
            longer.extend([order + [piece] for piece in range(count) if piece not in order])
        orders = longer
    return orders


def with_lists(number, lists):
    """A number and the lists behind it, each behind how many it has."""
    answer = [number]
    for numbers in lists:
        answer.append(len(numbers))
        answer.extend(numbers)
    return answer


def rise_below(numbers, limit):
    """Whether each number is above the one before it and below the limit."""
    lowest = 0
    for number in numbers:
        if number < lowest or number >= limit:
            return False
        lowest = number + 1
    return True


def call_end(calls, start):
    """The place behind the last number of the call that begins at start."""
    number = calls[start]
    if number == PLAYER:
        return start + 4
    if number == PIECE:
        return start + 3 + calls[start + 2]
    if number == AHEAD:
        return start + 3
    if number == CHECK:
        return start + 2 + calls[start + 1]
    # The others are handed nothing: they are their number alone.
    return start + 1


def answer_call(day, call):
    """The numbers that one call answers."""
    number = call[0]
    if number == BEGINS:
        return [day.begin()]
    if number == PLAYER:
        return [day.add_player(call[1], call[2], call[3])]
    if number == PIECE:
        return [day.add_piece(call[1], call[3:])]
    if number == AHEAD:
        return [day.put_ahead(call[1], call[2])]
    if number == BEST:
        return day.best()
    if number == CHECK:
        return day.check(call[2:])
    if number == WORK:
        return day.work()
    raise ValueError(f"there is no call {number}")


def answers(calls):
    """For each of the calls on a new day, in order: how many numbers it answers, and these."""
    day = Day()
    given = []
    start = 0
    while start < len(calls):
        end = call_end(calls, start)
        answer = answer_call(day, calls[start:end])
        given.append(len(answer))
        given.extend(answer)
        start = end
    return given
