"""The calls on one row of coins, and their answers."""

ROW = 0
TAKE = 1
BACK = 2
SHOWS = 3
LEAD = 4
BEST = 5
GETS = 6
GAMES = 7
PLAY = 8
PLACES = 9
GREEDY = 10
BEAT = 11
SWAP = 12

LEFT = 0
RIGHT = 1

MOST_COINS = 16
MOST_VALUE = 1000

NO_SUCH_ROW = -1
NO_SUCH_END = -1
NO_SUCH_PLACE = -2
NO_COIN = -6
NOTHING_TAKEN = -9


class UnknownCall(ValueError):
    pass


class Row:
    def __init__(self):
        self.coins = [1]
        # The coins that were taken, and from which ends, in the order of taking:
        # who has what and who is at turn follow from them, so back undoes all at once.
        self.taken = []
        self.ends = []

    def lay(self, coins):
        if not can_lie(coins):
            return [NO_SUCH_ROW]
        self.coins = list(coins)
        self.taken = []
        self.ends = []
        return [len(coins)]

    def take(self, end):
        if end != LEFT and end != RIGHT:
            return [NO_SUCH_END]
        if len(self.coins) == 0:
            return [NO_COIN]
        coin = end_coin(self.coins, end)
        self.coins = without_end(self.coins, end)
        self.taken.append(coin)
        self.ends.append(end)
        return [coin]

    def back(self):
        if len(self.taken) == 0:
            return [NOTHING_TAKEN]
        coin = self.taken.pop()
        end = self.ends.pop()
        if end == LEFT:
            self.coins = [coin] + self.coins
        else:
            self.coins = self.coins + [coin]
        return [coin]

    def shows(self):
        beginner_has = sum(self.taken[0::2])
        other_has = sum(self.taken[1::2])
        at_turn = 1 + len(self.taken) % 2
        return [len(self.coins)] + self.coins + [beginner_has, other_has, at_turn]

    def lead(self):
        return as_told(lead_of(self.coins))

    def best(self):
        if len(self.coins) == 0:
            return [NO_COIN]
        end = best_end(self.coins)
        return [end] + as_told(lead_of(without_end(self.coins, end)))

    def gets(self):
        in_all = sum(self.coins)
        # The two shares add up to in_all and differ by the lead, so the halving leaves no rest.
        share = (in_all + lead_of(self.coins)) // 2
        return [share, in_all - share]

    def games(self):
        return [games_of(self.coins)]

    def play(self):
        if len(self.coins) == 0:
            return [NO_COIN]
        return self.take(best_end(self.coins))

    def places(self):
        return [sum(self.coins[0::2]), sum(self.coins[1::2])]

    def greedy(self):
        taken = taken_by_greed(self.coins)
        return [sum(taken[0::2]), sum(taken[1::2])]

    def beat(self):
        if len(self.coins) == 0:
            return [NO_COIN]
        by_left = self.coins[0] + share_behind_greedy(self.coins[1:])
        by_right = self.coins[-1] + share_behind_greedy(self.coins[:-1])
        if by_left >= by_right:
            return [by_left, LEFT]
        return [by_right, RIGHT]

    def swap(self, i, j):
        if not is_place(self.coins, i) or not is_place(self.coins, j):
            return [NO_SUCH_PLACE]
        return as_told(lead_of(swapped(self.coins, i, j)))


def can_lie(coins):
    return 1 <= len(coins) <= MOST_COINS and max(coins) <= MOST_VALUE


def end_coin(coins, end):
    if end == LEFT:
        return coins[0]
    return coins[-1]


def without_end(coins, end):
    if end == LEFT:
        return coins[1:]
    return coins[:-1]


# Goes from short stretches of the row to long ones: each stretch is reckoned once,
# while a walk through all games would double with every coin.
def lead_of(coins):
    leads = [0] * (len(coins) + 1)
    for size in range(1, len(coins) + 1):
        leads = leads_of_size(coins, size, leads)
    return leads[0]


# shorter[k] is the lead on the stretch from k on that has one coin less than size.
def leads_of_size(coins, size, shorter):
    leads = []
    for start in range(len(coins) - size + 1):
        by_left = coins[start] - shorter[start + 1]
        by_right = coins[start + size - 1] - shorter[start]
        leads.append(max(by_left, by_right))
    return leads


def games_of(coins):
    # Where no coin lies there, the one game is that in which nothing is taken.
    games = [1] * (len(coins) + 1)
    leads = [0] * (len(coins) + 1)
    for size in range(1, len(coins) + 1):
        games = games_of_size(coins, size, leads, games)
        leads = leads_of_size(coins, size, leads)
    return games[0]


# shorter[k] and games[k] are the lead and the number of best games
# on the stretch from k on that has one coin less than size.
def games_of_size(coins, size, shorter, games):
    # Both ends of a single coin are the same coin: only the left one counts.
    if size == 1:
        return [1] * len(coins)
    counts = []
    for start in range(len(coins) - size + 1):
        by_left = coins[start] - shorter[start + 1]
        by_right = coins[start + size - 1] - shorter[start]
        count = 0
        if by_left >= by_right:
            count += games[start + 1]
        if by_right >= by_left:
            count += games[start]
        counts.append(count)
    return counts


def best_end(coins):
    by_left = coins[0] - lead_of(coins[1:])
    by_right = coins[-1] - lead_of(coins[:-1])
    if by_left >= by_right:
        return LEFT
    return RIGHT


def greedy_end(coins):
    if coins[0] >= coins[-1]:
        return LEFT
    return RIGHT


def taken_by_greed(coins):
    taken = []
    rest = coins
    while len(rest) > 0:
        end = greedy_end(rest)
        taken.append(end_coin(rest, end))
        rest = without_end(rest, end)
    return taken


# The most that one can get where the other one, who is greedy, is at turn.
# Both change after each coin, so a stretch's size tells who is at turn on it.
def share_behind_greedy(coins):
    shares = [0] * (len(coins) + 1)
    for size in range(1, len(coins) + 1):
        if (len(coins) - size) % 2 == 0:
            shares = shares_left_by_greedy(coins, size, shares)
        else:
            shares = shares_of_taking(coins, size, shares)
    return shares[0]


# shorter[k] is the share on the stretch from k on that has one coin less than size.
def shares_left_by_greedy(coins, size, shorter):
    shares = []
    for start in range(len(coins) - size + 1):
        if greedy_end(coins[start:start + size]) == LEFT:
            shares.append(shorter[start + 1])
        else:
            shares.append(shorter[start])
    return shares


# shorter[k] is told as in shares_left_by_greedy.
def shares_of_taking(coins, size, shorter):
    shares = []
    for start in range(len(coins) - size + 1):
        by_left = coins[start] + shorter[start + 1]
        by_right = coins[start + size - 1] + shorter[start]
        shares.append(max(by_left, by_right))
    return shares


def is_place(coins, place):
    return 1 <= place <= len(coins)


def swapped(coins, i, j):
    changed = list(coins)
    changed[i - 1] = coins[j - 1]
    changed[j - 1] = coins[i - 1]
    return changed


# Answers have no number below 0 but refusals, so the sign of a lead is a number of its own.
def as_told(lead):
    if lead == 0:
        return [0, 0]
    if lead > 0:
        return [1, lead]
    return [2, -lead]


def call_size(calls, at):
    if calls[at] == ROW:
        return 2 + calls[at + 1]
    if calls[at] == TAKE:
        return 2
    if calls[at] == SWAP:
        return 3
    return 1


def answer(row, call):
    number = call[0]
    if number == ROW:
        return row.lay(call[2:])
    if number == TAKE:
        return row.take(call[1])
    if number == BACK:
        return row.back()
    if number == SHOWS:
        return row.shows()
    if number == LEAD:
        return row.lead()
    if number == BEST:
        return row.best()
    if number == GETS:
        return row.gets()
    if number == GAMES:
        return row.games()
    if number == PLAY:
        return row.play()
    if number == PLACES:
        return row.places()
    if number == GREEDY:
        return row.greedy()
    if number == BEAT:
        return row.beat()
    if number == SWAP:
        return row.swap(call[1], call[2])
    raise UnknownCall(f"no call has the number {number}")


def answers(calls):
    row = Row()
    told = []
    at = 0
    while at < len(calls):
        behind = at + call_size(calls, at)
        numbers = answer(row, calls[at:behind])
        told.append(len(numbers))
        told.extend(numbers)
        at = behind
    return told
