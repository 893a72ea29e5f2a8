"""The calls: each gives back the list of the numbers that it answers.

A refusal is the list of its error code alone.
"""

from votedpairs.listing import list_matchings, list_popular, list_stable, list_standings
from votedpairs.pairing import NOBODY, count_pairs, exchanged, find_blocking_pairs, is_matching, is_preference_list
from votedpairs.proposing import propose_by_hosts, propose_by_persons
from votedpairs.state import Market
from votedpairs.voting import find_standing, is_unbeaten, votes

NO_INSTANCE = -11
NOT_THERE = -2
OUT_OF_RANGE = -22

CREATE = 0
LARGEST_SIDE = 4


def create(session, n, m):
    """Begin a new market, unless a number is out of range."""
    if not 1 <= n <= LARGEST_SIDE or not 1 <= m <= LARGEST_SIDE:
        return [OUT_OF_RANGE]
    session.market = Market(n, m)
    return [0]


def replace_preferences(market, side, member, choices, size):
    """Replace the preference list of one member of a side; the other side has this size."""
    if not 0 <= member < len(side):
        return [NOT_THERE]
    if not is_preference_list(choices, size):
        return [OUT_OF_RANGE]
    side[member] = list(choices)
    market.partners = [NOBODY] * len(market.person_lists)
    return [len(choices)]


def set_person_preferences(market, i, hosts):
    """Replace the preference list of person i."""
    return replace_preferences(market, market.person_lists, i, hosts, len(market.host_lists))


def set_host_preferences(market, h, persons):
    """Replace the preference list of host h."""
    return replace_preferences(market, market.host_lists, h, persons, len(market.person_lists))


def set_matching(market, a):
    """Replace the current matching."""
    if not is_matching(market.person_lists, market.host_lists, a):
        return [OUT_OF_RANGE]
    market.partners = list(a)
    return [count_pairs(a)]


def matching(market):
    """Tell the number of pairs and the current matching."""
    return [count_pairs(market.partners)] + market.partners


def person_proposing(market):
    """Replace the current matching by the person-proposing one."""
    market.partners = propose_by_persons(market.person_lists, market.host_lists)
    return matching(market)


def host_proposing(market):
    """Replace the current matching by the host-proposing one."""
    market.partners = propose_by_hosts(market.person_lists, market.host_lists)
    return matching(market)


def current_blocking_pairs(market):
    """The blocking pairs of the current matching."""
    return find_blocking_pairs(market.person_lists, market.host_lists, market.partners)


def is_stable(market):
    """Tell 1 if the current matching is stable, otherwise 0."""
    return [0 if current_blocking_pairs(market) else 1]


def blocking_pairs(market):
    """Tell how many blocking pairs there are, and these."""
    pairs = current_blocking_pairs(market)
    told = [len(pairs)]
    for person, host in pairs:
        told.append(person)
        told.append(host)
    return told


def compare(market, a):
    """Tell how many prefer the current matching to a, and how many a to the current one."""
    if not is_matching(market.person_lists, market.host_lists, a):
        return [OUT_OF_RANGE]
    current = find_standing(market.person_lists, market.host_lists, market.partners)
    other = find_standing(market.person_lists, market.host_lists, a)
    return [votes(current, other), votes(other, current)]


def is_popular(market):
    """Tell 1 if the current matching is popular, otherwise 0."""
    current = find_standing(market.person_lists, market.host_lists, market.partners)
    rivals = list_standings(market.person_lists, market.host_lists)
    return [1 if is_unbeaten(current, rivals) else 0]


def count_matchings(market):
    """Tell how many matchings, popular matchings and stable matchings there are."""
    every = list_matchings(market.person_lists, market.host_lists)
    popular = list_popular(market.person_lists, market.host_lists)
    stable = list_stable(market.person_lists, market.host_lists)
    return [len(every), len(popular), len(stable)]


def stable_matchings(market):
    """Tell how many stable matchings there are, and these."""
    found = list_stable(market.person_lists, market.host_lists)
    told = [len(found)]
    for partners in found:
        told.extend(partners)
    return told


def popular_matching(market, k):
    """Tell the number of pairs of popular matching k, and this matching."""
    found = list_popular(market.person_lists, market.host_lists)
    if not 0 <= k < len(found):
        return [NOT_THERE]
    return [count_pairs(found[k])] + found[k]


def use_largest_popular(market):
    """Replace the current matching by the first of the popular ones with the most pairs."""
    # Of several that are equal, max takes the first.
    market.partners = max(list_popular(market.person_lists, market.host_lists), key=count_pairs)
    return matching(market)


def swap_sides(market):
    """Make the persons hosts and the hosts persons."""
    persons_before = market.person_lists
    market.partners = exchanged(market.partners, len(market.host_lists))
    market.person_lists = market.host_lists
    market.host_lists = persons_before
    return [len(market.person_lists)]


def describe(market):
    """Tell the numbers of persons and hosts, and each preference list behind its length."""
    told = [len(market.person_lists), len(market.host_lists)]
    for choices in market.person_lists + market.host_lists:
        told.append(len(choices))
        told.extend(choices)
    return told


WITH_NUMBER_AND_ROW = {1: set_person_preferences, 2: set_host_preferences}
WITH_ROW = {3: set_matching, 9: compare}
WITH_NUMBER = {13: popular_matching}
PLAIN = {
    4: matching,
    5: person_proposing,
    6: host_proposing,
    7: is_stable,
    8: blocking_pairs,
    10: is_popular,
    11: count_matchings,
    12: stable_matchings,
    14: use_largest_popular,
    15: swap_sides,
    16: describe,
}


def carry_out(session, number, numbers, row):
    """Carry out the call that has this number, with its whole numbers and its row."""
    if number == CREATE:
        return create(session, numbers[0], numbers[1])
    if session.market is None:
        return [NO_INSTANCE]
    if number in WITH_NUMBER_AND_ROW:
        return WITH_NUMBER_AND_ROW[number](session.market, numbers[0], row)
    if number in WITH_ROW:
        return WITH_ROW[number](session.market, row)
    if number in WITH_NUMBER:
        return WITH_NUMBER[number](session.market, numbers[0])
    return PLAIN[number](session.market)
