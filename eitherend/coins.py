"""The calls on one row of coins, and their answers."""

ROW = 0
TAKE = 1
BACK = 2
SHOWS = 3
LEAD = 4
BEST = 5
GETS = 6

LEFT = 0
RIGHT = 1

MOST_COINS = 16
MOST_VALUE = 1000

NO_SUCH_ROW = -1
NO_SUCH_END = -1
NO_COIN = -6
NOTHING_TAKEN = -9


class UnknownCall(ValueError):
    pass


class Row:
    def __init__(self):
        self.coins = [1]
        # The coins that were taken, and from which ends, in the order of taking:
        # who has what and who is at turn follow from them, so back undoes all at once.
        self.taken = []
        self.ends = []

    def lay(self, coins):
        if not can_lie(coins):
            return [NO_SUCH_ROW]
        self.coins = list(coins)
        self.taken = []
        self.ends = []
        return [len(coins)]

    def take(self, end):
        if end != LEFT and end != RIGHT:
            return [NO_SUCH_END]
        if len(self.coins) == 0:
            return [NO_COIN]
        coin = end_coin(self.coins, end)
        self.coins = without_end(self.coins, end)
        self.taken.append(coin)
        self.ends.append(end)
        return [coin]

    def back(self):
        if len(self.taken) == 0:
            return [NOTHING_TAKEN]
        coin = self.taken.pop()
        end = self.ends.pop()
        if end == LEFT:
            self.coins = [coin] + self.coins
        else:
            self.coins = self.coins + [coin]
        return [coin]

    def shows(self):
        beginner_has = sum(self.taken[0::2])
        other_has = sum(self.taken[1::2])
        at_turn = 1 + len(self.taken) % 2
        return [len(self.coins)] + self.coins + [beginner_has, other_has, at_turn]

    def lead(self):
        return as_told(lead_of(self.coins))

    def best(self):
        if len(self.coins) == 0:
            return [NO_COIN]
        end = best_end(self.coins)
        return [end] + as_told(lead_of(without_end(self.coins, end)))

    def gets(self):
        in_all = sum(self.coins)
        # The two shares add up to in_all and differ by the lead, so the halving leaves no rest.
        share = (in_all + lead_of(self.coins)) // 2
        return [share, in_all - share]


def can_lie(coins):
    return 1 <= len(coins) <= MOST_COINS and max(coins) <= MOST_VALUE


def end_coin(coins, end):
    if end == LEFT:
        return coins[0]
    return coins[-1]


def without_end(coins, end):
    if end == LEFT:
        return coins[1:]
    return coins[:-1]


# Goes from short stretches of the row to long ones: each stretch is reckoned once,
# while a walk through all games would double with every coin.
def lead_of(coins):
    leads = [0] * (len(coins) + 1)
    for size in range(1, len(coins) + 1):
        leads = leads_of_size(coins, size, leads)
    return leads[0]


# shorter[k] is the lead on the stretch from k on that has one coin less than size.
def leads_of_size(coins, size, shorter):
    leads = []
    for start in range(len(coins) - size + 1):
        by_left = coins[start] - shorter[start + 1]
        by_right = coins[start + size - 1] - shorter[start]
        leads.append(max(by_left, by_right))
    return leads


def best_end(coins):
    by_left = coins[0] - lead_of(coins[1:])
    by_right = coins[-1] - lead_of(coins[:-1])
    if by_left >= by_right:
        return LEFT
    return RIGHT


# Answers have no number below 0 but refusals, so the sign of a lead is a number of its own.
def as_told(lead):
    if lead == 0:
        return [0, 0]
    if lead > 0:
        return [1, lead]
    return [2, -lead]


def call_size(calls, at):
    if calls[at] == ROW:
        return 2 + calls[at + 1]
    if calls[at] == TAKE:
        return 2
    return 1


def answer(row, call):
    number = call[0]
    if number == ROW:
        return row.lay(call[2:])
    if number == TAKE:
        return row.take(call[1])
    if number == BACK:
        return row.back()
    if number == SHOWS:
        return row.shows()
    if number == LEAD:
        return row.lead()
    if number == BEST:
        return row.best()
    if number == GETS:
        return row.gets()
    raise UnknownCall(f"no call has the number {number}")


def answers(calls):
    row = Row()
    told = []
    at = 0
    while at < len(calls):
        behind = at + call_size(calls, at)
        numbers = answer(row, calls[at:behind])
        told.append(len(numbers))
        told.extend(numbers)
        at = behind
    return told
