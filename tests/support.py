"""What the tests share: building calls, splitting answers, many markets, and matchings told by trying all."""

from itertools import permutations, product

from votedpairs.market import answers

NO_INSTANCE = [-11]
NOT_THERE = [-2]
OUT_OF_RANGE = [-22]

LOWEST = -2147483648
HIGHEST = 2147483647
MOST_CALLS = 60

MATCHING = [4]
PERSON_PROPOSING = [5]
HOST_PROPOSING = [6]
IS_STABLE = [7]
BLOCKING_PAIRS = [8]
IS_POPULAR = [10]
COUNT_MATCHINGS = [11]
STABLE_MATCHINGS = [12]
USE_LARGEST_POPULAR = [14]
SWAP_SIDES = [15]
DESCRIBE = [16]


def create(n, m):
    return [0, n, m]


def set_person_preferences(i, hosts):
    return [1, i, len(hosts)] + list(hosts)


def set_host_preferences(h, persons):
    return [2, h, len(persons)] + list(persons)


def set_matching(a):
    return [3, len(a)] + list(a)


def compare(a):
    return [9, len(a)] + list(a)


def popular_matching(k):
    return [13, k]


def split_answers(told):
    """The answer of each call, from the one list that is given back."""
    found = []
    place = 0
    while place < len(told):
        count = told[place]
        answer = told[place + 1:place + 1 + count]
        if count < 1 or len(answer) != count:
            raise AssertionError("not whole answers: " + repr(told))
        found.append(answer)
        place += 1 + count
    return found


def ask(calls):
    """Hand in a list of calls, and give back the list of their answers."""
    if not 1 <= len(calls) <= MOST_CALLS:
        raise AssertionError("a request has no such number of calls: " + str(len(calls)))
    given = [number for call in calls for number in call]
    found = split_answers(answers(given))
    if len(found) != len(calls):
        raise AssertionError("not one answer for each call: " + repr(found))
    return found


def build(persons, hosts):
    """The calls that make a market of these preference lists."""
    calls = [create(len(persons), len(hosts))]
    calls += [set_person_preferences(i, row) for i, row in enumerate(persons)]
    calls += [set_host_preferences(h, row) for h, row in enumerate(hosts)]
    return calls


def ask_of(persons, hosts, calls):
    """The answers of these calls on a market, without those of the calls that make it."""
    first = build(persons, hosts)
    return ask(first + calls)[len(first):]


def preference_lists(size, least=0):
    """Every preference list of at least so many numbers below size."""
    return [list(row) for length in range(least, size + 1) for row in permutations(range(size), length)]


def markets(n, m, least=0):
    """Every market of n persons and m hosts whose lists have at least so many numbers."""
    for persons in product(preference_lists(m, least), repeat=n):
        for hosts in product(preference_lists(n, least), repeat=m):
            yield list(persons), list(hosts)


def market_at(place, n, m, least=0):
    """The market that has this place among all of its size."""
    rows = []
    for choices in [preference_lists(m, least)] * n + [preference_lists(n, least)] * m:
        place, digit = divmod(place, len(choices))
        rows.append(choices[digit])
    return rows[:n], rows[n:]


def spread_markets(n, m, how_many, least=0):
    """So many markets of this size, spread over all of them, the same ones every time."""
    size = len(preference_lists(m, least)) ** n * len(preference_lists(n, least)) ** m
    place = 0
    for turn in range(how_many):
        place = (place * 6364136223846793005 + 1442695040888963407) % 2 ** 64
        yield market_at(place * size // 2 ** 64, n, m, least)


def many_markets():
    """Markets of every size: all of the smallest sizes, and some of each other."""
    sizes = list(product(range(1, 5), repeat=2))
    for n, m in sizes:
        if (n, m) in ((1, 1), (1, 2), (2, 1), (2, 2), (1, 3), (3, 1)):
            yield from markets(n, m)
        else:
            yield from spread_markets(n, m, 120)
            yield from spread_markets(n, m, 120, min(n, m))


def full_market(n, m):
    """The market in which everybody lists all of the other side, in ascending order."""
    return [list(range(m))] * n, [list(range(n))] * m


def turned_market(n, m):
    """A market of full lists in which persons begin with different hosts, who like them least if n is m."""
    return ([[(i + place) % m for place in range(m)] for i in range(n)],
            [[(h + 1 + place) % n for place in range(n)] for h in range(m)])


def once_for_each_market(tell):
    """Remember what is told of a market, as trying all takes long; tests don't change what they are told."""
    known = {}

    def remembered(persons, hosts):
        market = repr((persons, hosts))
        if market not in known:
            known[market] = tell(persons, hosts)
        return known[market]

    return remembered


def acceptable(persons, hosts, i, h):
    return h in persons[i] and i in hosts[h]


def is_a_matching(persons, hosts, a):
    taken = [h for h in a if h != -1]
    return (len(a) == len(persons) and len(set(taken)) == len(taken)
            and all(0 <= h < len(hosts) and acceptable(persons, hosts, i, h)
                    for i, h in enumerate(a) if h != -1))


@once_for_each_market
def all_matchings(persons, hosts):
    """Every matching, in the order of matchings."""
    choices = list(range(len(hosts))) + [-1]
    return [list(a) for a in product(choices, repeat=len(persons)) if is_a_matching(persons, hosts, a)]


def rank(row, one):
    """The place in a preference list; nobody comes behind all."""
    return len(row) if one == -1 else row.index(one)


def blocking(persons, hosts, a):
    """The blocking pairs of a matching, in ascending order."""
    have = {h: i for i, h in enumerate(a)}
    return [(i, h) for i in range(len(persons)) for h in range(len(hosts))
            if acceptable(persons, hosts, i, h)
            and rank(persons[i], h) < rank(persons[i], a[i])
            and rank(hosts[h], i) < rank(hosts[h], have.get(h, -1))]


@once_for_each_market
def stable(persons, hosts):
    """Every stable matching, in the order of matchings."""
    return [a for a in all_matchings(persons, hosts) if not blocking(persons, hosts, a)]


def places(persons, hosts, a):
    """The place of the partner in the preference list, for each person and then for each host."""
    have = {h: i for i, h in enumerate(a)}
    return ([rank(row, a[i]) for i, row in enumerate(persons)]
            + [rank(row, have.get(h, -1)) for h, row in enumerate(hosts)])


def votes_of_places(one, other):
    return sum(here < there for here, there in zip(one, other))


def votes(persons, hosts, a, b):
    """How many persons and hosts prefer the matching a to b."""
    return votes_of_places(places(persons, hosts, a), places(persons, hosts, b))


@once_for_each_market
def popular(persons, hosts):
    """Every popular matching, in the order of matchings."""
    every = all_matchings(persons, hosts)
    standing = [places(persons, hosts, a) for a in every]
    return [a for a, own in zip(every, standing)
            if all(votes_of_places(other, own) <= votes_of_places(own, other) for other in standing)]


def largest_popular(persons, hosts):
    """The first popular matching with the greatest number of pairs."""
    found = popular(persons, hosts)
    most = max(pairs_of(a) for a in found)
    return [a for a in found if pairs_of(a) == most][0]


def sides_exchanged(a, size):
    """The partners of the hosts, who are so many."""
    return [a.index(h) if h in a else -1 for h in range(size)]


def pairs_of(a):
    return sum(1 for h in a if h != -1)


def told_matching(a):
    """What a call answers that tells the number of pairs and the matching."""
    return [pairs_of(a)] + list(a)


def told_listing(found):
    """What a call answers that tells how many matchings there are, and these."""
    return [len(found)] + [h for a in found for h in a]


def told_market(persons, hosts):
    """What describe answers."""
    told = [len(persons), len(hosts)]
    for row in list(persons) + list(hosts):
        told += [len(row)] + list(row)
    return told


def views(persons, hosts):
    """Lists of calls, each behind calls that made this market, which together show all that an instance holds.

    The lists are shown by describe, and by every matching's blocking pairs: as they are, and with everybody on one
    side willing to take everybody, so that names that stand in one list of the two only are seen as well.
    """
    n, m = len(persons), len(hosts)
    willing_persons = [set_person_preferences(i, range(m)) for i in range(n)]
    willing_hosts = [set_host_preferences(h, range(n)) for h in range(m)]
    found = [[DESCRIBE, MATCHING, IS_STABLE, BLOCKING_PAIRS, IS_POPULAR, PERSON_PROPOSING, HOST_PROPOSING]]
    some = list(product(list(range(m)) + [-1], repeat=n))
    for start in range(0, len(some), 20):
        tries = []
        for a in some[start:start + 20]:
            tries += [set_matching(a), BLOCKING_PAIRS]
        found += [tries, willing_persons + tries, willing_hosts + tries]
    return found
