"""One day of rehearsals: its players, its pieces, which piece is to be ahead of which, and the calls about them."""

BEGINS = 0
PLAYER = 1
PIECE = 2
AHEAD = 3

MOST_PLAYERS = 6
MOST_PIECES = 6
HIGHEST_COST = 1000
LAST_MINUTE = 3600
LONGEST_PIECE = 600


class Day:
    """What has been told of a day; a refused call answers a number below 0 and leaves all as it was."""

    def __init__(self):
        self.players = []
        self.pieces = []
        self.pairs = []

    def begin(self):
        """Forget all that has been told."""
        self.players = []
        self.pieces = []
        self.pairs = []
        return 0

    def add_player(self, cost, since, till):
        """Answer the new player's number."""
        if cost > HIGHEST_COST or till < since or till > LAST_MINUTE:
            return -1
        if len(self.pieces) > 0:
            return -4
        if len(self.players) == MOST_PLAYERS:
            return -5
        self.players.append((cost, since, till))
        return len(self.players) - 1

    def add_piece(self, minutes, players):
        """Answer the new piece's number."""
        if minutes < 1 or minutes > LONGEST_PIECE:
            return -1
        if not rise_below(players, len(self.players)):
            return -1
        if len(self.pieces) == MOST_PIECES:
            return -5
        self.pieces.append((minutes, tuple(players)))
        return len(self.pieces) - 1

    def put_ahead(self, i, j):
        """Answer how many pairs are told once i is to be ahead of j."""
        if i >= len(self.pieces) or j >= len(self.pieces):
            return -2
        if i == j or (i, j) in self.pairs:
            return -3
        # The same pair the other way round is another pair: it leaves no right order, but it may be told.
        self.pairs.append((i, j))
        return len(self.pairs)


def rise_below(numbers, limit):
    """Whether each number is above the one before it and below the limit."""
    lowest = 0
    for number in numbers:
        if number < lowest or number >= limit:
            return False
        lowest = number + 1
    return True


def call_end(calls, start):
    """The place behind the last number of the call that begins at start."""
    number = calls[start]
    if number == BEGINS:
        return start + 1
    if number == PLAYER:
        return start + 4
    if number == PIECE:
        return start + 3 + calls[start + 2]
    if number == AHEAD:
        return start + 3
    # Without knowing how long a call is, what follows it can't be read either.
    raise NotImplementedError(f"there is no call {number} yet")


def answer_call(day, call):
    """The numbers that one call answers."""
    number = call[0]
    if number == BEGINS:
        return [day.begin()]
    if number == PLAYER:
        return [day.add_player(call[1], call[2], call[3])]
    if number == PIECE:
        return [day.add_piece(call[1], call[3:])]
    return [day.put_ahead(call[1], call[2])]


def answers(calls):
    """For each of the calls on a new day, in order: how many numbers it answers, and these."""
    day = Day()
    given = []
    start = 0
    while start < len(calls):
        end = call_end(calls, start)
        answer = answer_call(day, calls[start:end])
        given.append(len(answer))
        given.extend(answer)
        start = end
    return given
