"""Calls as they are written in the list, answers call by call, and a plain search through all games."""

from eitherend.coins import answers

BACK = [2]
SHOWS = [3]
LEAD = [4]
BEST = [5]
GETS = [6]
GAMES = [7]
PLAY = [8]
PLACES = [9]
GREEDY = [10]
BEAT = [11]
LEFT = [1, 0]
RIGHT = [1, 1]


def row(*values):
    return [0, len(values), *values]


def take(end):
    return [1, end]


def swap(i, j):
    return [12, i, j]


def written(calls):
    return [number for call in calls for number in call]


def parted(told):
    """The answers call by call, each without its count."""
    parts = []
    at = 0
    while at < len(told):
        count = told[at]
        part = told[at + 1:at + 1 + count]
        if count < 1 or len(part) != count:
            raise AssertionError(f"a count of {count} at {at} in {told}")
        parts.append(part)
        at += 1 + count
    return parts


def ask(*calls):
    parts = parted(answers(written(calls)))
    if len(parts) != len(calls):
        raise AssertionError(f"{len(parts)} answers to {len(calls)} calls")
    return parts


def last(*calls):
    return ask(*calls)[-1]


def searched_lead(coins):
    """Every game is gone through, with nothing kept of the ones before."""
    if not coins:
        return 0
    return max(coins[0] - searched_lead(coins[1:]), coins[-1] - searched_lead(coins[:-1]))


def told_lead(lead):
    return [(lead > 0) + 2 * (lead < 0), abs(lead)]


def searched_best(coins):
    after_left = searched_lead(coins[1:])
    after_right = searched_lead(coins[:-1])
    if coins[0] - after_left >= coins[-1] - after_right:
        return [0] + told_lead(after_left)
    return [1] + told_lead(after_right)


def searched_gets(coins):
    """Both shares by playing one best game to its end."""
    shares = [0, 0]
    at_turn = 0
    while coins:
        end = searched_best(coins)[0]
        shares[at_turn] += coins[-1] if end else coins[0]
        coins = coins[:-1] if end else coins[1:]
        at_turn = 1 - at_turn
    return shares


def searched_games(coins):
    """All best games, each as the ends that are taken in it."""
    if len(coins) < 2:
        return [(0,) * len(coins)]
    by_left = coins[0] - searched_lead(coins[1:])
    by_right = coins[-1] - searched_lead(coins[:-1])
    games = []
    if by_left >= by_right:
        games += [(0, *game) for game in searched_games(coins[1:])]
    if by_left <= by_right:
        games += [(1, *game) for game in searched_games(coins[:-1])]
    return games


def greedy_took(coins):
    """The coin that the greedy one takes, and the row without it."""
    if coins[-1] > coins[0]:
        return coins[-1], coins[:-1]
    return coins[0], coins[1:]


def greedy_shares(coins):
    if not coins:
        return [0, 0]
    coin, rest = greedy_took(coins)
    other, own = greedy_shares(rest)
    return [coin + own, other]


def searched_most(coins, end):
    """The most against the greedy one with this end first: everything else that can be taken is tried."""
    coin, rest = (coins[-1], coins[:-1]) if end else (coins[0], coins[1:])
    if rest:
        rest = greedy_took(rest)[1]
    if not rest:
        return coin
    return coin + max(searched_most(rest, 0), searched_most(rest, 1))


def searched_beat(coins):
    by_left = searched_most(coins, 0)
    by_right = searched_most(coins, 1)
    return [by_right, 1] if by_right > by_left else [by_left, 0]


def searched_swap(coins, i, j):
    places = range(1, len(coins) + 1)
    if i not in places or j not in places:
        return [-2]
    origin = {i: j, j: i}
    return told_lead(searched_lead([coins[origin.get(place, place) - 1] for place in places]))


class SlowGame:
    """The thirteen calls on a row that never shrinks: what lies there is worked out from the ends taken."""

    def __init__(self):
        self.values = (1,)
        self.ends = ()

    def state(self):
        left, right = 0, len(self.values)
        has = [0, 0]
        for turn, end in enumerate(self.ends):
            if end == 0:
                has[turn % 2] += self.values[left]
                left += 1
            else:
                right -= 1
                has[turn % 2] += self.values[right]
        return list(self.values[left:right]), has

    def answer(self, call):
        coins, has = self.state()
        number = call[0]
        if number == 0:
            values = tuple(call[2:])
            if len(values) not in range(1, 17) or any(value > 1000 for value in values):
                return [-1]
            self.values, self.ends = values, ()
            return [len(values)]
        if number == 1:
            if call[1] not in (0, 1):
                return [-1]
            if not coins:
                return [-6]
            self.ends += (call[1],)
            return [coins[-call[1]]]
        if number == 2:
            if not self.ends:
                return [-9]
            self.ends = self.ends[:-1]
            before = self.state()[1]
            return [sum(has) - sum(before)]
        if number == 3:
            return [len(coins), *coins, *has, 1 + len(self.ends) % 2]
        if number == 4:
            return told_lead(searched_lead(coins))
        if number == 5:
            return searched_best(coins) if coins else [-6]
        if number == 6:
            return searched_gets(coins)
        return self.answer_further(call, coins)

    def answer_further(self, call, coins):
        number = call[0]
        if number == 7:
            return [len(set(searched_games(coins)))]
        if number == 8:
            return self.answer([1, searched_best(coins)[0]]) if coins else [-6]
        if number == 9:
            return [sum(coin for place, coin in enumerate(coins, 1) if place % 2 == odd) for odd in (1, 0)]
        if number == 10:
            return greedy_shares(coins)
        if number == 11:
            return searched_beat(coins) if coins else [-6]
        return searched_swap(coins, call[1], call[2])
